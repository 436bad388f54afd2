import PyProof.Rows.All
import Wide.All
import OpenK.AllK
import Wide.FinOn
import Lean
import PyProof.EqAt
import PyProof.EqKinds
import PyProof.TupleCall
import PyProof.Draws
import PyProof.ZipIter
import PyProof.EnumMake
import PyProof.IsiPairs
import PyProof.IsiHeapPairs
import PyProof.IsiNone
import PyProof.ReprRoads
import PyProof.ConsumeWalk
import PyProof.NeKinds
import PyProof.Rows.SeqMore
import PyProof.Rows.SortWalk
import PyProof.Rows.StrJoinMade
import PyProof.MeetsStr
import PyProof.MeetsStr2
import PyProof.StrLawsOcc
import PyProof.SliceStr2
import PyProof.Rows.StrMadeLen
import KE.KIntText
import PyProof.P3Eq
import PyProof.ListRange
import PyProof.CollectIter
import KE.KTryDeep
import PyProof.ExcBaseAll.ValueError
import PyProof.ExcArgsOwn
import PyProof.ExcAttrAll.ValueError
import KE.KLam
import PyProof.ExcInit
import OpenK.KMake
import PyProof.InstStoreFacts
import PyProof.Rows.FStr
import PyProof.DictItemsLoops
import PyProof.DictCompW
import KE.KRevIter
import PyProof.FitsReplace
import PyProof.Rows.StrDigits
import PyProof.StrLawsRepr
import PySem.Challenge.RW_mainfires_k91_firings_as_texts
set_option Elab.async false
set_option linter.all false
set_option maxRecDepth 100000
set_option maxHeartbeats 4000000
section
namespace L2
open PySem PySem.Spec PyProof.Rows
abbrev Key := Sum Int Str
def keyIs : Key → Value → Bool
 | .inl k, v => Value.isInt k v
 | .inr x, v => Value.isStrOf x v
def keyH (w : World) : Key → Int
 | .inl k => hashInt k
 | .inr x => hashStr w x
theorem keyIs_shape : ∀ {k : Key} {v : Value}, keyIs k v = true → (∃ i t, k = Sum.inl i ∧ v = Value.int i t) ∨ (∃ x t, k = Sum.inr x ∧ v = Value.str x t)
 | .inl i, v, h => by
  obtain ⟨t, e⟩ := Value.isInt_shape (k := i) (v := v) h
  exact .inl ⟨i, t, rfl, e⟩
 | .inr x, v, h => by
  obtain ⟨t, e⟩ := Value.isStrOf_shape (x := x) (v := v) h
  exact .inr ⟨x, t, rfl, e⟩
theorem key_ll (a b : Int) : decide ((Sum.inl a : Key) = Sum.inl b) = (a == b) := by
 by_cases e : a = b
 ·subst e; simp
 ·have h : ¬ (Sum.inl a : Key) = Sum.inl b := fun q => e (Sum.inl.inj q)
  rw [decide_eq_false h]
  exact (beq_eq_false_iff_ne.mpr e).symm
theorem key_rr (a b : Str) : decide ((Sum.inr a : Key) = Sum.inr b) = decide (a = b) := by
 by_cases e : a = b
 ·subst e; simp
 ·have h : ¬ (Sum.inr a : Key) = Sum.inr b := fun q => e (Sum.inr.inj q)
  rw [decide_eq_false h, decide_eq_false e]
theorem key_lr (a : Int) (b : Str) : decide ((Sum.inl a : Key) = Sum.inr b) = false := decide_eq_false (fun q => nomatch q)
theorem key_rl (a : Str) (b : Int) : decide ((Sum.inr a : Key) = Sum.inl b) = false := decide_eq_false (fun q => nomatch q)
def mixKind (prog : Program) (w : World) : PySem.KeyKind prog w Key where
 is := keyIs
 hash := keyH w
 inj := fun v a b ha hb => by
  rcases keyIs_shape ha with ⟨i, t, rfl, rfl⟩ | ⟨x, t, rfl, rfl⟩
  ·rcases keyIs_shape hb with ⟨j, u, rfl, e⟩ | ⟨y, u, rfl, e⟩
   ·injection e with e1 _; rw [e1]
   ·exact nomatch e
  ·rcases keyIs_shape hb with ⟨j, u, rfl, e⟩ | ⟨y, u, rfl, e⟩
   ·exact nomatch e
   ·injection e with e1 _; rw [e1]
 byValue := fun k v h => by
  rcases keyIs_shape h with ⟨i, t, rfl, rfl⟩ | ⟨x, t, rfl, rfl⟩ <;> rfl
 pyHash := fun hv h => by
  rcases keyIs_shape hv with ⟨i, t, rfl, rfl⟩ | ⟨x, t, rfl, rfl⟩
  ·exact wpAny_pyHash_int h
  ·exact wpAny_pyHash_str h
 eqBool := fun hu hv h => by
  rcases keyIs_shape hu with ⟨i, t, rfl, rfl⟩ | ⟨x, t, rfl, rfl⟩
  ·rcases keyIs_shape hv with ⟨j, u, rfl, rfl⟩ | ⟨y, u, rfl, rfl⟩
   ·rw [key_ll] at h; exact wpAny_eqBool_int h
   ·rw [key_lr] at h; exact SeqAt.EqAt.int_str i t y u _ _ _ _ h
  ·rcases keyIs_shape hv with ⟨j, u, rfl, rfl⟩ | ⟨y, u, rfl, rfl⟩
   ·rw [key_rl] at h; exact SeqAt.EqAt.str_int x t j u _ _ _ _ h
   ·rw [key_rr] at h; exact wpAny_eqBool_str h
 «strs» := fun k x t v h => by
  rcases keyIs_shape h with ⟨i, u, rfl, e⟩ | ⟨y, u, rfl, e⟩
  ·exact nomatch e
  ·injection e with e1 _
   subst e1
   cases v <;> rfl
end L2
namespace L2
open PySem PySem.Spec PyProof.Rows
inductive V where
 | non | bl (b : Bool) | int (i : Int) | str (x : Str) | byt (b : Array UInt8) | flt (b : UInt64) | ref (a : Addr) | ty (n : String)
 deriving DecidableEq
def RelV : V → Value → Prop
 | .non, u => u = Value.none
 | .bl b, u => u = Value.bool b
 | .int i, u => ∃ t, u = Value.int i t
 | .str x, u => ∃ t, u = Value.str x t
 | .byt b, u => ∃ t, u = Value.bytes b t
 | .flt b, u => ∃ t, u = Value.float b t
 | .ref a, u => u = Value.ref a
 | .ty n, u => u = Value.type n
abbrev Vals : List V → List Value → Prop := Paired RelV
theorem Vals.length {xs : List V} {us : List Value} (r : Vals xs us) : xs.length = us.length := Paired.length r
theorem Vals.get : ∀ {xs : List V} {us : List Value} {i : Nat} {x : V}, Vals xs us → xs[i]? = some x → ∃ u, us[i]? = some u ∧ RelV x u
 | _, _, _, _, .nil, e => by simp at e
 | _, _, 0, _, .cons r _, e => by simp at e; subst e; exact ⟨_, rfl, r⟩
 | _, _, i + 1, x, .cons _ t, e => by
  obtain ⟨u, h1, h2⟩ := Vals.get (i := i) (x := x) t (by simpa using e)
  exact ⟨u, by simpa using h1, h2⟩
theorem Vals.set {x : V} {u : Value} (r : RelV x u) : ∀ {xs : List V} {us : List Value} (i : Nat), Vals xs us → Vals (xs.set i x) (us.set i u)
 | _, _, _, .nil => .nil
 | _, _, 0, .cons _ t => .cons r t
 | _, _, i + 1, .cons q t => .cons q (Vals.set r i t)
theorem Vals.append : ∀ {xs ys : List V} {us ws : List Value}, Vals xs us → Vals ys ws → Vals (xs ++ ys) (us ++ ws)
 | _, _, _, _, .nil, s => s
 | _, _, _, _, .cons r t, s => .cons r (Vals.append t s)
theorem Vals.take : ∀ {xs : List V} {us : List Value} (n : Nat), Vals xs us → Vals (xs.take n) (us.take n)
 | _, _, 0, _ => .nil
 | _, _, _ + 1, .nil => .nil
 | _, _, n + 1, .cons r t => .cons r (Vals.take n t)
theorem Vals.drop : ∀ {xs : List V} {us : List Value} (n : Nat), Vals xs us → Vals (xs.drop n) (us.drop n)
 | _, _, 0, r => r
 | _, _, _ + 1, .nil => .nil
 | _, _, n + 1, .cons _ t => Vals.drop n t
def RelO : Option V → Option Value → Prop
 | some v, some u => RelV v u
 | none, none => True
 | _, _ => False
def KV {κ : Type} : List (κ × V) → List (κ × Value) → Prop := Paired fun (p : κ × V) (q : κ × Value) => p.1 = q.1 ∧ RelV p.2 q.2
def kV : Key → V
 | .inl i => .int i
 | .inr x => .str x
inductive HO where
 /-- a list -/
 | lst (xs : List V)
 /-- a tuple (never changes) -/
 | tup (xs : List V)
 /-- a dict whose keys are ints and texts; one whose keys are tuples of ints and texts (the empty one is both) -/
 | dK (kvs : List (Key × V)) | dT (kvs : List (List Key × V))
 /-- a set of ints: its members, its size -/
 | set (S : Int → Bool) (n : Nat)
 /-- an instance of the class at C, its dict at dx, its attributes -/
 | ins (C dx : Addr) (fs : List (Str × V))
 /-- the dict of the instance at x -/
 | own (x : Addr)
 /-- the dict of an exception -/
 | xd (fs : List (Str × V))
 /-- a bound method, f of x -/
 | met (f x : Addr)
 /-- a range object lo, lo + 1, .. below hi -/
 | rng (lo hi : Int)
 /-- a thing that is known to the object (the script; a dict while a loop walks it): read, never written while it is so -/
 | frz (o : Obj) (u : HO)
 /-- a code object's table -/
 | tbl (ps : Array Value)
 /-- any other thing, by what is true of its one object (a def of one's own: SetO a S n := HO.ext fun h => ..) -/
 | ext (φ : Heap → Prop)
abbrev Hp := Addr → Option HO
def upd (H : Hp) (a : Addr) (o : HO) : Hp := fun b => if b = a then some o else H b
theorem upd_same {H : Hp} {a : Addr} {o : HO} : upd H a o a = some o := by unfold upd; rw [if_pos rfl]
theorem upd_ne {H : Hp} {a b : Addr} {o : HO} (h : b ≠ a) : upd H a o b = H b := by unfold upd; rw [if_neg h]
theorem ne_of {H : Hp} {a b : Addr} {o u : HO} (h : H a = some o) (h' : H b = some u) (d : o ≠ u) : a ≠ b := by
 intro e; subst e; rw [h] at h'; exact d (Option.some.inj h')
theorem ne_of_none {H : Hp} {a b : Addr} {o : HO} (h : H a = some o) (h' : H b = none) : a ≠ b := by
 intro e; subst e; rw [h] at h'; cases h'
section
variable (P : Program) (w : World)
def ObjOk (H : Hp) (h : Heap) (a : Addr) : HO → Prop
 | .lst xs => xs.length ≤ sizeLine ∧ ∃ (its : List Value) (n : Nat), Vals xs its ∧ h.get? a = some { cls := .type "list", data := .seq its.toArray n }
 | .tup xs => xs.length ≤ sizeLine ∧ ∃ its : List Value, Vals xs its ∧ IsTup h a its.toArray
 | .dK kvs => kvs.length ≤ sizeLine ∧ (a == sysModules) = false ∧ ∃ vs, KV kvs vs ∧ h.DictOf (mixKind P w) a vs
 | .dT kvs => kvs.length ≤ sizeLine ∧ (a == sysModules) = false ∧ ∃ xs : List (List Key × Addr × Value),
   Paired (fun (p : List Key × V) (q : List Key × Addr × Value) => p.1 = q.1 ∧ H q.2.1 = some (.tup (p.1.map kV)) ∧ RelV p.2 q.2.2) kvs xs ∧
   ∃ o es ep, h.get? a = some o ∧ o.ExactDict ∧ o.data = .dict es ep ∧ es.toList = xs.map (entryOfKey (tupleKind (mixKind P w))) ∧ (xs.map (·.1)).Nodup
 | .set S n => h.SetOf (intKind P w) a S n
 | .ins C dx fs => H dx = some (.own a) ∧ fs.length ≤ 1000 ∧ dx ≠ a ∧ h.get? a = some (PySem.W.instObj C dx) ∧
   ∃ mA, h.Ns1 dx mA ∧ (∀ f, RelO (fs.lookup f) (mA f)) ∧ PySem.Within mA (fs.map (·.1))
 | .own _ => ∃ o, h.get? a = some o
 | .xd fs => ∃ mA, h.Ns1 a mA ∧ ∀ f, RelO (fs.lookup f) (mA f)
 | .rng lo hi => ∃ t u v, h.get? a = some { cls := .type "range", data := .fields #[.int lo t, .int hi u, .int 1 v] }
 | .frz o u => h.get? a = some o ∧ ObjOk H h a u
 | .tbl ps => h.get? a = some { cls := .none, data := .fields ps }
 | .met f x => h.get? a = some (PySem.W.methodObj (.ref f) (.ref x))
 | .ext φ => φ h ∧ (∃ o, h.get? a = some o) ∧ ∀ h1 h2 : Heap, φ h1 → (∀ o, h1.get? a = some o → h2.get? a = some o) → φ h2
def HOk (H : Hp) (h : Heap) : Prop := ∀ a o, H a = some o → ObjOk P w H h a o
end
section
variable {P : Program} {w : World} {H H' : Hp} {h h' : Heap} {a : Addr} {o : HO}
theorem ObjOk.lt (x : ObjOk P w H h a o) : a < h.objs.size := by
 cases o with
 | lst xs => obtain ⟨_, _, _, _, e⟩ := x; exact Heap.lt_size e
 | tup xs => obtain ⟨_, _, _, p⟩ := x; exact p.lt
 | dK kvs => obtain ⟨_, _, _, _, o, _, _, e, _⟩ := x; exact Heap.lt_size e
 | dT kvs => obtain ⟨_, _, _, _, o, _, _, e, _⟩ := x; exact Heap.lt_size e
 | set S n => obtain ⟨o, _, _, _, e, _⟩ := x; exact Heap.lt_size e
 | ins C dx fs => obtain ⟨_, _, _, e, _⟩ := x; exact Heap.lt_size e
 | own y => obtain ⟨_, e⟩ := x; exact Heap.lt_size e
 | xd fs => obtain ⟨_, ⟨_, _, _, e, _⟩, _⟩ := x; exact Heap.lt_size e
 | rng lo hi => obtain ⟨_, _, _, e⟩ := x; exact Heap.lt_size e
 | frz ob u => obtain ⟨e, _⟩ := x; exact Heap.lt_size e
 | tbl ps => exact Heap.lt_size (show h.get? a = some _ from x)
 | met f y => exact Heap.lt_size (show h.get? a = some _ from x)
 | ext φ => obtain ⟨_, ⟨_, e⟩, _⟩ := x; exact Heap.lt_size e
theorem Paired.mapP {α β : Type} {F G : α → β → Prop} : ∀ {l₁ : List α} {l₂ : List β}, Paired F l₁ l₂ → (∀ a b, F a b → G a b) → Paired G l₁ l₂
 | _, _, .nil, _ => .nil
 | _, _, .cons r t, f => .cons (f _ _ r) (Paired.mapP t f)
theorem ObjOk.stay (x : ObjOk P w H h a o) (k : ∀ b u, (b = a ∨ H b = some (.own a)) → h.get? b = some u → h'.get? b = some u)
  (ho : ∀ b, H b = some (.own a) → H' b = some (.own a)) (ht : ∀ b xs, H b = some (.tup xs) → H' b = some (.tup xs)) : ObjOk P w H' h' a o := by
 induction o with
 | lst xs => obtain ⟨z, its, n, r, e⟩ := x; exact ⟨z, its, n, r, k _ _ (.inl rfl) e⟩
 | tup xs => obtain ⟨z, its, r, ob, e, c⟩ := x; exact ⟨z, its, r, ob, k _ _ (.inl rfl) e, c⟩
 | dK kvs => obtain ⟨z, y, vs, r, ob, es, ep, e, c⟩ := x; exact ⟨z, y, vs, r, ob, es, ep, k _ _ (.inl rfl) e, c⟩
 | dT kvs =>
  obtain ⟨z, y, xs, r, ob, es, ep, e, c⟩ := x
  exact ⟨z, y, xs, Paired.mapP r fun p q z => ⟨z.1, ht _ _ z.2.1, z.2.2⟩, ob, es, ep, k _ _ (.inl rfl) e, c⟩
 | set S n => obtain ⟨ob, es, ep, t, e, c⟩ := x; exact ⟨ob, es, ep, t, k _ _ (.inl rfl) e, c⟩
 | ins C dx fs =>
  obtain ⟨d, z, ne, e, mA, ⟨od, es, ep, e2, c⟩, r⟩ := x
  exact ⟨ho _ d, z, ne, k _ _ (.inl rfl) e, mA, ⟨od, es, ep, k _ _ (.inr d) e2, c⟩, r⟩
 | own y => obtain ⟨ob, e⟩ := x; exact ⟨ob, k _ _ (.inl rfl) e⟩
 | xd fs => obtain ⟨mA, ⟨od, es, ep, e, c⟩, r⟩ := x; exact ⟨mA, ⟨od, es, ep, k _ _ (.inl rfl) e, c⟩, r⟩
 | rng lo hi => obtain ⟨t, u, v, e⟩ := x; exact ⟨t, u, v, k _ _ (.inl rfl) e⟩
 | frz ob u ih => obtain ⟨e, q⟩ := x; exact ⟨k _ _ (.inl rfl) e, ih q⟩
 | tbl ps =>
  have e : h.get? a = some { cls := .none, data := .fields ps } := x
  show h'.get? a = some { cls := .none, data := .fields ps }
  exact k a _ (.inl rfl) e
 | met f y =>
  have e : h.get? a = some (PySem.W.methodObj (.ref f) (.ref y)) := x
  show h'.get? a = some (PySem.W.methodObj (.ref f) (.ref y))
  exact k a _ (.inl rfl) e
 | ext φ => obtain ⟨p, ⟨o, e⟩, st⟩ := x; exact ⟨st _ _ p fun o q => k _ _ (.inl rfl) q, ⟨o, k _ _ (.inl rfl) e⟩, st⟩
theorem HOk.lt (x : HOk P w H h) (e : H a = some o) : a < h.objs.size := (x a o e).lt
theorem HOk.fresh (x : HOk P w H h) (e : h.objs.size ≤ a) : H a = none := by
 cases q : H a with
 | none => rfl
 | some u => exact absurd (Nat.lt_of_lt_of_le (x.lt q) e) (Nat.lt_irrefl _)
theorem HOk.kept (x : HOk P w H h) (k : ∀ b u, h.get? b = some u → h'.get? b = some u) : HOk P w H h' := fun a o e =>
 (x a o e).stay (fun b u _ q => k b u q) (fun _ q => q) fun _ _ q => q
theorem HOk.laid (x : HOk P w H h) (k : ∀ b u, h.get? b = some u → h'.get? b = some u) (hp : h.objs.size ≤ a) (new : ObjOk P w (upd H a o) h' a o) : HOk P w (upd H a o) h' := fun b u e => by
 have hn := x.fresh hp
 by_cases hb : b = a
 ·subst hb; rw [upd_same] at e; cases e; exact new
 ·rw [upd_ne hb] at e
  exact (x b u e).stay (fun c v _ q => k c v q) (fun c q => by rw [upd_ne (ne_of_none q hn)]; exact q) fun c xs q => by rw [upd_ne (ne_of_none q hn)]; exact q
end
def Rd (H : Hp) (a : Addr) (u : HO) : Prop := H a = some u ∨ ∃ o, H a = some (.frz o u)
theorem Rd.ok {P : Program} {w : World} {H : Hp} {h : Heap} {a : Addr} {u : HO} (r : Rd H a u) (x : HOk P w H h) : ObjOk P w H h a u := by
 rcases r with r | ⟨o, r⟩
 ·exact x a u r
 ·obtain ⟨_, q⟩ := x a _ r
  exact q
def Mut : Option HO → Prop
 | some (.lst _) => True
 | some (.dK _) => True
 | some (.dT _) => True
 | some (.set _ _) => True
 | some (.ins _ _ _) => True
 | some (.ext _) => True
 | _ => False
section
variable {P : Program} {w : World} {H : Hp} {h h' : Heap} {x e : Addr} {o' : HO}
theorem HOk.write (ok : HOk P w H h) (mu : Mut (H x)) (he : e = x ∨ H e = some (.own x)) (k : ∀ b u, b ≠ e → h.get? b = some u → h'.get? b = some u) (heo : ∃ u, h'.get? e = some u)
  (new : ObjOk P w (upd H x o') h' x o') : HOk P w (upd H x o') h' := fun b u q => by
 have nown : ∀ c y, H c = some (.own y) → c ≠ x := fun c y r z => by subst z; rw [r] at mu; exact mu
 have ntup : ∀ c xs, H c = some (.tup xs) → c ≠ x := fun c xs r z => by subst z; rw [r] at mu; exact mu
 by_cases hb : b = x
 ·subst hb; rw [upd_same] at q; cases q; exact new
 ·rw [upd_ne hb] at q
  by_cases hbe : b = e
  ·have q' : H b = some (.own x) := by
    rcases he with z | z
    ·exact absurd (hbe.trans z) hb
    ·rw [hbe]; exact z
   rw [q] at q'; cases q'
   obtain ⟨v, hv⟩ := heo
   exact ⟨v, by rw [hbe]; exact hv⟩
  ·refine (ok b u q).stay (fun c v hc r => k c v ?_ r) (fun c r => by rw [upd_ne (nown c b r)]; exact r) fun c xs r => by rw [upd_ne (ntup c xs r)]; exact r
   rcases hc with rfl | hc
   ·exact hbe
   ·rintro rfl
    rcases he with z | z
    ·exact nown c b hc z
    ·rw [hc] at z; cases z; exact hb rfl
end
structure Un (fs ex : List Addr) (H H' : Hp) (h h' : Heap) : Prop where
 keep : ∀ b o, h.get? b = some o → H b = none → b ∉ fs → b ∉ ex → h'.get? b = some o
 slot : ∀ b o, h.get? b = some o → H b = none → b ∈ fs → b ∉ ex → ∃ sl, h'.get? b = some { o with slots := sl }
 free : ∀ b o, h.get? b = some o → H b = none → b ∉ ex → H' b = none
 there : ∀ b o, h.get? b = some o → b ∉ ex → ∃ o', h'.get? b = some o'
 tups : ∀ b xs, H b = some (.tup xs) → H' b = some (.tup xs)
 frzs : ∀ b o u, H b = some (.frz o u) → H' b = some (.frz o u)
 tbls : ∀ b ps, H b = some (.tbl ps) → ∃ more, H' b = some (.tbl (ps ++ more))
section
variable {fs fs' ex ex' : List Addr} {H H1 H2 : Hp} {h h1 h2 h' : Heap} {a x e : Addr} {o : HO}
theorem Un.any (u : Un fs ex H H1 h h1) {b : Addr} {ob : Obj} (q : h.get? b = some ob) (n : H b = none) (hx : b ∉ ex) : ∃ sl, h1.get? b = some { ob with slots := sl } := by
 by_cases hb : b ∈ fs
 ·exact u.slot b ob q n hb hx
 ·exact ⟨ob.slots, u.keep b ob q n hb hx⟩
theorem Un.kept (k : ∀ b u, h.get? b = some u → h'.get? b = some u) : Un fs ex H H h h' :=
 ⟨fun b ob q _ _ _ => k b ob q, fun b ob q _ _ _ => ⟨ob.slots, k b ob q⟩, fun _ _ _ n _ => n, fun b ob q _ => ⟨ob, k b ob q⟩, fun _ _ q => q, fun _ _ _ q => q, fun _ ps q => ⟨#[], by rw [q]; simp⟩⟩
theorem Un.refl : Un fs ex H H h h := Un.kept fun _ _ q => q
theorem Un.laid (k : ∀ b u, h.get? b = some u → h'.get? b = some u) (hp : h.objs.size ≤ a) (hn : H a = none) : Un fs ex H (upd H a o) h h' where
 keep := fun b u q _ _ _ => k b u q
 slot := fun b u q _ _ _ => ⟨u.slots, k b u q⟩
 free := fun b u q n _ => by rw [upd_ne (Nat.ne_of_lt (Nat.lt_of_lt_of_le (Heap.lt_size q) hp))]; exact n
 there := fun b u q _ => ⟨u, k b u q⟩
 tups := fun b xs q => by rw [upd_ne (ne_of_none q hn)]; exact q
 frzs := fun b u xs q => by rw [upd_ne (ne_of_none q hn)]; exact q
 tbls := fun b ps q => ⟨#[], by rw [upd_ne (ne_of_none q hn), q]; simp⟩
theorem Un.write (mu : Mut (H x)) (he : e = x ∨ H e = some (.own x)) (k : ∀ b u, b ≠ e → h.get? b = some u → h'.get? b = some u) (heo : ∃ u, h'.get? e = some u) : Un fs ex H (upd H x o) h h' := by
 have hx : ∀ b, H b = none → b ≠ x := fun b n z => by subst z; rw [n] at mu; exact mu
 have hb : ∀ b, H b = none → b ≠ e := fun b n z => by
  subst z
  rcases he with r | r
  ·exact hx b n r
  ·rw [n] at r; cases r
 have hm : ∀ b u, H b = some u → ¬ Mut (some u) → b ≠ x := fun b u q nm z => by subst z; rw [q] at mu; exact nm mu
 refine ⟨fun b u q n _ _ => k b u (hb b n) q, fun b u q n _ _ => ⟨u.slots, k b u (hb b n) q⟩, fun b u q n _ => by rw [upd_ne (hx b n)]; exact n, fun b u q _ => ?_,
  fun b xs q => by rw [upd_ne (hm b _ q fun z => z)]; exact q, fun b u xs q => by rw [upd_ne (hm b _ q fun z => z)]; exact q, fun b ps q => ⟨#[], by rw [upd_ne (hm b _ q fun z => z), q]; simp⟩⟩
 by_cases hbe : b = e
 ·subst hbe; exact heo
 ·exact ⟨u, k b u hbe q⟩
end
def trk (h : Heap) (H : Hp) : List Addr := (List.range h.objs.size).filter fun a => (H a).isSome
def hidT (h : Heap) (H : Hp) : Heap := PySem.W.hideAll h (trk h H)
theorem hidT_size (h : Heap) (H : Hp) : (hidT h H).objs.size = h.objs.size := PySem.W.hideAll_size _ _
theorem hidT_get {h : Heap} {H : Hp} {b : Addr} {o : Obj} (e : h.get? b = some o) (n : H b = none) : (hidT h H).get? b = some o :=
 PySem.W.hideAll_get _ e fun hm => by
  have q : (H b).isSome = true := (List.mem_filter.mp hm).2
  rw [n] at q; simp at q
theorem of_hidT {h : Heap} {H : Hp} {b : Addr} {o : Obj} (e : (hidT h H).get? b = some o) : h.get? b = some o ∧ H b = none := by
 have e' : h.get? b = some o := PySem.W.of_hideAll (trk h H) e
 refine ⟨e', ?_⟩
 cases q : H b with
 | none => rfl
 | some x =>
  have hm : b ∈ trk h H := List.mem_filter.mpr ⟨List.mem_range.mpr (Heap.lt_size e'), by simp [q]⟩
  have z : (hidT h H).get? b = none := PySem.W.hideAll_none (trk h H) hm
  rw [z] at e; cases e
def allNews (g h : Heap) (L : Addr) : List (Addr × Obj) := (List.range h.objs.size).filterMap fun a => if a = L ∨ (g.get? a).isSome = true then none else (h.get? a).map fun o => (a, o)
def rest (g h : Heap) (L d : Addr) : List (Addr × Obj) := (allNews g h L).filter fun p => decide (p.1 ≠ d)
end L2
namespace L2
open PySem PySem.Spec PyProof.Rows
structure Mod (K : PySem.W.Frag) (mg : Str → Option Value) (base : Heap) : Prop where
 kin : K.In base
 glob : base.Ns mainGlobals mg
 blt : ∃ mb, base.Ns builtinsNs mb ∧ ∀ x : Str, x ≠ "__name__" → mb x = bootBuiltins x
 nolimit : base.NoLimit
structure Cx where
 prog : Program
 w : World
 K : PySem.W.Frag
 mg : Str → Option Value
 base : Heap
 A : Around
 N : List Str
 s₀ : Shared
 H₀ : Hp
 env : Env
 outer : List Env
 stack : List Env
 ex : List Addr
 fn : Str → Bool
 calm : Bool
 pn : List (Addr × Obj)
 xe : Value → Shared → Prop
def frs (l : List Env) : List Addr := l.filterMap (·.frame)
abbrev Cx.fs (X : Cx) : List Addr := frs X.outer
def Vis (sc : Scope) (x : Str) : Prop := sc.names.lookup x = some .local ∨ sc.names.lookup x = some .cell ∨ sc.names.lookup x = some .free
def Loc (sc : Scope) (x : Str) : Prop := sc.names.lookup x = some .local ∨ sc.names.lookup x = some .cell
def Look (env : Env) (h : Heap) (m : Str → Option Value) (x : Str) (u : Value) : Prop :=
 (env.kindOf x = some .local ∧ m x = some u) ∨ ((env.kindOf x = some .cell ∨ env.kindOf x = some .free) ∧ ∃ c, env.cells.lookup x = some c ∧ h.IsCell c (some u))
structure Cx.Ok (X : Cx) : Prop where
 mod : Mod X.K X.mg X.base
 kind : X.env.scope.kind = .function
 glob : X.env.globals = mainGlobals
 blt : X.env.builtins = builtinsNs
 above : X.s₀.heap.objs.size ≤ X.env.locals
 inj : ∀ x y c, X.env.cells.lookup x = some c → X.env.cells.lookup y = some c → x = y
 has : ∀ x, (X.env.kindOf x = some .cell ∨ X.env.kindOf x = some .free) → ∃ c, X.env.cells.lookup x = some c
 cab : ∀ x c, X.fn x = true → X.env.cells.lookup x = some c → X.s₀.heap.objs.size ≤ c
 hd : X.calm = true → X.A.handled = none
 frames : X.A.frames = some X.stack
 stk : X.stack = X.outer ∨ (X.stack = X.env :: X.outer ∧ X.env.frame = some X.env.locals)
 exf : ∀ b ∈ X.ex, b ≠ X.env.locals ∧ ∀ x c, X.env.cells.lookup x = some c → c ≠ b
 bs : ∀ b o, X.base.get? b = some o → X.s₀.heap.get? b = some o ∧ X.H₀ b = none
 bsz : X.base.objs.size ≤ X.s₀.heap.objs.size
 noex : ∀ b o, X.base.get? b = some o → b ∉ X.ex
 exfs : ∀ b ∈ X.ex, b ∉ X.fs
 funs : X.s₀.heap.FunFrames X.base X.outer
 frf : ∀ b ∈ X.fs, X.H₀ b = none
structure Inv (X : Cx) (pins : List (Addr × Obj)) (σ : List (Option V)) (H : Hp) (s : Shared) : Prop where
 ok : X.Ok
 os : s.os = X.s₀.os
 bare : AllBare s.gens
 base : Un X.fs X.ex X.H₀ H X.s₀.heap s.heap
 loc : ∃ m, s.heap.Ns X.env.locals m ∧ ∀ (i : Nat) (x : Str) (v : V), X.N[i]? = some x → σ[i]? = some (some v) → Vis X.env.scope x → ∃ u, RelV v u ∧ Look X.env s.heap m x u
 cell : ∀ x c, X.env.cells.lookup x = some c → ∃ v, s.heap.IsCell c v
 free : H X.env.locals = none
 freeC : ∀ x c, X.env.cells.lookup x = some c → H c = none
 pin : ∀ p ∈ X.pn ++ pins, s.heap.get? p.1 = some p.2 ∧ H p.1 = none ∧ p.1 ≠ X.env.locals ∧ p.1 ∉ X.fs ∧ ∀ v, p.2.data ≠ .cell v
 hok : HOk X.prog X.w H s.heap
 len : σ.length = X.N.length
section
variable {X : Cx} {pins : List (Addr × Obj)} {σ : List (Option V)} {H H' : Hp} {s : Shared} {h' : Heap}
theorem Cx.Ok.nofr (ok : X.Ok) {b : Addr} {o : Obj} (e : X.base.get? b = some o) : b ∉ X.fs := fun hb => by
 have := (ok.funs.mem hb).1
 rw [e] at this; cases this
theorem Inv.bs (I : Inv X pins σ H s) : ∀ b o, X.base.get? b = some o → s.heap.get? b = some o ∧ H b = none := fun b o e =>
 ⟨I.base.keep b o (I.ok.bs b o e).1 (I.ok.bs b o e).2 (I.ok.nofr e) (I.ok.noex b o e), I.base.free b o (I.ok.bs b o e).1 (I.ok.bs b o e).2 (I.ok.noex b o e)⟩
theorem Inv.bk (I : Inv X pins σ H s) : ∀ b o, X.base.get? b = some o → s.heap.get? b = some o := fun b o e => (I.bs b o e).1
theorem Inv.mod (I : Inv X pins σ H s) : Mod X.K X.mg X.base := I.ok.mod
theorem Inv.kIn (I : Inv X pins σ H s) : X.K.In s.heap := I.ok.mod.kin.keeps I.bk
theorem Inv.fr (I : Inv X pins σ H s) : ∃ m, Fr X.base X.env.locals s.heap m :=
 let ⟨m, hn, _⟩ := I.loc
 ⟨m, hn, I.bk, Nat.le_trans I.ok.bsz I.ok.above⟩
theorem Inv.lt (I : Inv X pins σ H s) : X.env.locals < s.heap.objs.size := let ⟨_, hn, _⟩ := I.loc; hn.lt
theorem Inv.sz (I : Inv X pins σ H s) : X.s₀.heap.objs.size ≤ s.heap.objs.size := Nat.le_trans I.ok.above (Nat.le_of_lt I.lt)
theorem Inv.nofs (I : Inv X pins σ H s) {a : Addr} (h : s.heap.objs.size ≤ a) : a ∉ X.fs := fun hb => by
 obtain ⟨_, o, ho, _⟩ := I.ok.funs.mem hb
 exact absurd (Nat.lt_of_lt_of_le (Heap.lt_size ho) (Nat.le_trans I.sz h)) (Nat.lt_irrefl _)
theorem Inv.cne (I : Inv X pins σ H s) : ∀ x c, X.env.cells.lookup x = some c → c ≠ X.env.locals := fun x c e z => by
 obtain ⟨v, o, ho, hd⟩ := I.cell x c e
 obtain ⟨m, ⟨o', es, ep, ho', hd', _⟩, _⟩ := I.loc
 rw [z, ho'] at ho; cases ho; rw [hd'] at hd; cases hd
theorem Inv.funs (I : Inv X pins σ H s) : s.heap.FunFrames X.base X.outer := by
 have all : ∀ (l : List Env), (∀ b ∈ frs l, b ∈ X.fs) → X.s₀.heap.FunFrames X.base l → s.heap.FunFrames X.base l := by
  intro l
  induction l with
  | nil => intro _ _; trivial
  | cons env r ih =>
   intro hs hl
   obtain ⟨hk, ⟨L, o, hf, hn, ho, hd⟩, hr⟩ := hl
   have hL : L ∈ X.fs := hs L (by unfold frs; rw [List.filterMap_cons, hf]; exact List.mem_cons_self)
   obtain ⟨sl, e⟩ := I.base.slot L o ho (I.ok.frf L hL) hL fun z => I.ok.exfs L z hL
   exact ⟨hk, ⟨L, _, hf, hn, e, hd⟩, ih (fun b hb => hs b (by unfold frs; rw [List.filterMap_cons, hf]; exact List.mem_cons_of_mem _ hb)) hr⟩
 exact all X.outer (fun _ hb => hb) I.ok.funs
theorem Inv.stack (I : Inv X pins σ H s) : s.heap.FunFrames X.base X.stack := by
 rcases I.ok.stk with e | ⟨e, hf⟩
 ·rw [e]; exact I.funs
 ·rw [e]
  obtain ⟨m, hn, _⟩ := I.loc
  refine .cons (by rw [I.ok.kind]; decide) hf hn ?_ I.funs
  exact Heap.get?_none_of_le (Nat.le_trans I.ok.bsz I.ok.above)
theorem Inv.stkSub (I : Inv X pins σ H s) : ∀ b ∈ frs X.stack, b ∈ X.env.locals :: X.fs := fun b hb => by
 rcases I.ok.stk with e | ⟨e, hf⟩
 ·rw [e] at hb; exact List.mem_cons_of_mem _ hb
 ·rw [e] at hb
  unfold frs at hb
  rw [List.filterMap_cons, hf] at hb
  exact hb
theorem Inv.stkFree (I : Inv X pins σ H s) : ∀ b ∈ frs X.stack, H b = none := fun b hb => by
 rcases List.mem_cons.mp (I.stkSub b hb) with e | hb
 ·rw [e]; exact I.free
 ·obtain ⟨_, o, ho, _⟩ := I.ok.funs.mem hb
  exact I.base.free b o ho (I.ok.frf b hb) fun z => I.ok.exfs b z hb
theorem Inv.step {g' : Array GenState} {t' : Nat} {d' : Drawn} {ch : List Addr} (I : Inv X pins σ H s)
  (hch : ∀ b ∈ ch, (b ∈ X.ex ∨ X.s₀.heap.objs.size ≤ b) ∧ b ≠ X.env.locals ∧ (∀ x c, X.env.cells.lookup x = some c → c ≠ b) ∧ ∀ p ∈ X.pn ++ pins, p.1 ≠ b)
  (keep : ∀ b o, b ≠ X.env.locals → b ∉ X.fs → b ∉ ch → s.heap.get? b = some o → H b = none → h'.get? b = some o)
  (slot : ∀ b o, b ≠ X.env.locals → b ∈ X.fs → b ∉ ch → s.heap.get? b = some o → H b = none → ∃ sl, h'.get? b = some { o with slots := sl }) (free : ∀ b o, b ∉ ch → s.heap.get? b = some o → H b = none → H' b = none)
  (there : ∀ b o, b ∉ ch → s.heap.get? b = some o → ∃ o', h'.get? b = some o')
  (tups : ∀ b xs, H b = some (.tup xs) → H' b = some (.tup xs)) (frzs : ∀ b o u, H b = some (.frz o u) → H' b = some (.frz o u)) (tbls : ∀ b ps, H b = some (.tbl ps) → ∃ more, H' b = some (.tbl (ps ++ more)))
  (ns : ∀ m, s.heap.Ns X.env.locals m → h'.Ns X.env.locals m) (hok : HOk X.prog X.w H' h') (hg : AllBare g') :
  Inv X pins σ H' { s with heap := h', gens := g', drawn := d', toks := t' } := by
 have neL : ∀ b o, X.s₀.heap.get? b = some o → b ≠ X.env.locals := fun b o e => Nat.ne_of_lt (Nat.lt_of_lt_of_le (Heap.lt_size e) I.ok.above)
 have neC : ∀ b o, X.s₀.heap.get? b = some o → b ∉ X.ex → b ∉ ch := fun b o e hx hb => by
  rcases (hch b hb).1 with z | z
  ·exact hx z
  ·exact absurd (Nat.lt_of_lt_of_le (Heap.lt_size e) z) (Nat.lt_irrefl _)
 have cellK : ∀ x c, X.env.cells.lookup x = some c → ∀ v, s.heap.IsCell c v → h'.IsCell c v := fun x c e v ⟨o, ho, hd⟩ => by
  have nch : c ∉ ch := fun z => (hch c z).2.2.1 x c e rfl
  by_cases hc : c ∈ X.fs
  ·obtain ⟨sl, q⟩ := slot c o (I.cne x c e) hc nch ho (I.freeC x c e)
   exact ⟨_, q, hd⟩
  ·exact ⟨o, keep c o (I.cne x c e) hc nch ho (I.freeC x c e), hd⟩
 refine ⟨I.ok, I.os, hg, ⟨fun b o e n hb hx => ?_, fun b o e n hb hx => ?_, fun b o e n hx => ?_, fun b o e hx => ?_, fun b xs e => tups b xs (I.base.tups b xs e), fun b o xs e => frzs b o xs (I.base.frzs b o xs e), fun b ps e => ?_⟩, ?_, fun x c e => ?_, ?_, fun x c e => ?_, fun p hp => ?_, hok, I.len⟩
 ·exact keep b o (neL b o e) hb (neC b o e hx) (I.base.keep b o e n hb hx) (I.base.free b o e n hx)
 ·obtain ⟨sl, e1⟩ := I.base.slot b o e n hb hx
  obtain ⟨sl', e2⟩ := slot b _ (neL b o e) hb (neC b o e hx) e1 (I.base.free b o e n hx)
  exact ⟨sl', e2⟩
 ·obtain ⟨o', e1⟩ := I.base.there b o e hx
  exact free b o' (neC b o e hx) e1 (I.base.free b o e n hx)
 ·obtain ⟨o', e1⟩ := I.base.there b o e hx
  exact there b o' (neC b o e hx) e1
 ·obtain ⟨m1, e1⟩ := I.base.tbls b ps e
  obtain ⟨m2, e2⟩ := tbls b _ e1
  exact ⟨m1 ++ m2, by rw [e2, Array.append_assoc]⟩
 ·obtain ⟨m, hn, hl⟩ := I.loc
  refine ⟨m, ns m hn, fun i x v e1 e2 e3 => ?_⟩
  obtain ⟨u, r, l⟩ := hl i x v e1 e2 e3
  refine ⟨u, r, ?_⟩
  rcases l with l | ⟨k, c, e, z⟩
  ·exact .inl l
  ·exact .inr ⟨k, c, e, cellK x c e _ z⟩
 ·obtain ⟨v, z⟩ := I.cell x c e
  exact ⟨v, cellK x c e v z⟩
 ·obtain ⟨m, ⟨o, _, _, ho, _⟩, _⟩ := I.loc
  exact free _ o (fun z => (hch _ z).2.1 rfl) ho I.free
 ·obtain ⟨v, o, ho, hd⟩ := I.cell x c e
  exact free c o (fun z => (hch c z).2.2.1 x c e rfl) ho (I.freeC x c e)
 ·obtain ⟨e, n, ne, nf, d⟩ := I.pin p hp
  have nch : p.1 ∉ ch := fun z => (hch p.1 z).2.2.2 p hp rfl
  exact ⟨keep p.1 p.2 ne nf nch e n, free p.1 p.2 nch e n, ne, nf, d⟩
theorem Inv.un {t' : Nat} (I : Inv X pins σ H s) (u : Un X.fs [] H H' s.heap h') (hok : HOk X.prog X.w H' h') : Inv X pins σ H' { s with heap := h', toks := t' } := by
 obtain ⟨m, ⟨o, es, ep, ho, r⟩, _⟩ := id I.loc
 obtain ⟨sl, hL⟩ := u.any ho I.free (by simp)
 exact I.step (g' := s.gens) (d' := s.drawn) (ch := []) (fun _ z => nomatch z) (fun b o _ hb _ e n => u.keep b o e n hb (by simp)) (fun b o _ hb _ e n => u.slot b o e n hb (by simp)) (fun b o _ e n => u.free b o e n (by simp)) (fun b o _ e => u.there b o e (by simp)) u.tups u.frzs u.tbls (fun m' hm => by
  obtain ⟨o', es', ep', ho', r'⟩ := hm
  rw [ho] at ho'; cases ho'
  exact ⟨_, es', ep', hL, r'⟩) hok I.bare
theorem Inv.call {g' : Array GenState} {t' : Nat} {d' : Drawn} {ch : List Addr} (I : Inv X pins σ H s) (u : Un (frs X.stack) ch H H' s.heap h') (hok : HOk X.prog X.w H' h') (hg : AllBare g')
  (hch : ∀ b ∈ ch, (b ∈ X.ex ∨ X.s₀.heap.objs.size ≤ b) ∧ b ≠ X.env.locals ∧ (∀ x c, X.env.cells.lookup x = some c → c ≠ b) ∧ ∀ p ∈ X.pn ++ pins, p.1 ≠ b) :
  Inv X pins σ H' { s with heap := h', gens := g', drawn := d', toks := t' } := by
 obtain ⟨m, ⟨o, es, ep, ho, r⟩, _⟩ := id I.loc
 obtain ⟨sl, hL⟩ := u.any ho I.free fun z => (hch _ z).2.1 rfl
 exact I.step (ch := ch) hch (fun b o hL hb hc e n => u.keep b o e n (fun z => (List.mem_cons.mp (I.stkSub b z)).elim hL hb) hc) (fun b o _ _ hc e n => u.any e n hc) (fun b o hc e n => u.free b o e n hc) (fun b o hc e => u.there b o e hc) u.tups u.frzs u.tbls (fun m' hm => by
  obtain ⟨o', es', ep', ho', r'⟩ := hm
  rw [ho] at ho'; cases ho'
  exact ⟨_, es', ep', hL, r'⟩) hok hg
theorem Inv.turned {t' : Nat} {it : Addr} (I : Inv X pins σ H s) (k : ∀ b o, b ≠ it → s.heap.get? b = some o → h'.get? b = some o) (hn : H it = none) (hL : it ≠ X.env.locals)
  (h1 : it ∈ X.ex ∨ X.s₀.heap.objs.size ≤ it) (h2 : ∀ x c, X.env.cells.lookup x = some c → c ≠ it) (h3 : ∀ p ∈ X.pn ++ pins, p.1 ≠ it) : Inv X pins σ H { s with heap := h', toks := t' } := by
 have nit : ∀ b u, H b = some u → b ≠ it := fun b u e z => by rw [z, hn] at e; cases e
 refine I.step (g' := s.gens) (d' := s.drawn) (ch := [it]) (fun b hb => ?_) (fun b o _ _ hc e _ => k b o (fun z => hc (by simp [z])) e) (fun b o _ _ hc e _ => ⟨o.slots, k b o (fun z => hc (by simp [z])) e⟩) (fun _ _ _ _ n => n)
  (fun b o hc e => ⟨o, k b o (fun z => hc (by simp [z])) e⟩) (fun _ _ e => e) (fun _ _ _ e => e) (fun b ps e => ⟨#[], by rw [e]; simp⟩) (fun m hm => ?_) (fun b u e => ?_) I.bare
 ·have e : b = it := by simpa using hb
  subst e
  exact ⟨h1, hL, h2, h3⟩
 ·obtain ⟨o, es, ep, ho, r⟩ := hm
  exact ⟨o, es, ep, k _ o (Ne.symm hL) ho, r⟩
 ·refine (I.hok b u e).stay (fun c v hc q => k c v ?_ q) (fun _ q => q) fun _ _ q => q
  rcases hc with z | z
  ·rw [z]; exact nit b u e
  ·exact nit c _ z
theorem Inv.tok (I : Inv X pins σ H s) (t : Nat) : Inv X pins σ H { s with toks := t } := I.un (h' := s.heap) (t' := t) Un.refl I.hok
theorem Inv.kept {t' : Nat} (I : Inv X pins σ H s) (k : ∀ b u, s.heap.get? b = some u → h'.get? b = some u) : Inv X pins σ H { s with heap := h', toks := t' } := I.un (Un.kept k) (I.hok.kept k)
theorem Inv.laid {a : Addr} {o : HO} {t' : Nat} (I : Inv X pins σ H s) (k : ∀ b u, s.heap.get? b = some u → h'.get? b = some u) (hp : s.heap.objs.size ≤ a) (new : ObjOk X.prog X.w (upd H a o) h' a o) :
  Inv X pins σ (upd H a o) { s with heap := h', toks := t' } := I.un (Un.laid k hp (I.hok.fresh hp)) (I.hok.laid k hp new)
theorem Inv.write {x e : Addr} {o : HO} {t' : Nat} (I : Inv X pins σ H s) (mu : Mut (H x)) (he : e = x ∨ H e = some (.own x)) (k : ∀ b u, b ≠ e → s.heap.get? b = some u → h'.get? b = some u) (heo : ∃ u, h'.get? e = some u)
  (new : ObjOk X.prog X.w (upd H x o) h' x o) : Inv X pins σ (upd H x o) { s with heap := h', toks := t' } := I.un (Un.write mu he k heo) (I.hok.write mu he k heo new)
theorem Inv.weak {σ' : List (Option V)} (I : Inv X pins σ H s) (hl : σ'.length = σ.length) (w : ∀ (i : Nat) v, σ'[i]? = some (some v) → σ[i]? = some (some v)) : Inv X pins σ' H s :=
 ⟨I.ok, I.os, I.bare, I.base, let ⟨m, hn, hl'⟩ := I.loc; ⟨m, hn, fun i x v e1 e2 e3 => hl' i x v e1 (w i v e2) e3⟩, I.cell, I.free, I.freeC, I.pin, I.hok, hl.trans I.len⟩
theorem Inv.pins_of {pins' : List (Addr × Obj)} (I : Inv X pins σ H s) (h : ∀ p ∈ pins', s.heap.get? p.1 = some p.2 ∧ H p.1 = none ∧ p.1 ≠ X.env.locals ∧ p.1 ∉ X.fs ∧ ∀ v, p.2.data ≠ .cell v) : Inv X pins' σ H s :=
 ⟨I.ok, I.os, I.bare, I.base, I.loc, I.cell, I.free, I.freeC, fun p hp => (List.mem_append.mp hp).elim (fun z => I.pin p (List.mem_append_left _ z)) (h p), I.hok, I.len⟩
theorem nodup_ix {N : List Str} (hN : N.Nodup) {i j : Nat} {x : Str} (a : N[i]? = some x) (b : N[j]? = some x) : i = j := by
 obtain ⟨h1, e1⟩ := List.getElem?_eq_some_iff.mp a
 obtain ⟨h2, e2⟩ := List.getElem?_eq_some_iff.mp b
 exact (List.getElem_inj hN).mp (e1.trans e2.symm)
theorem store_ok2 {M : Model} {A : Around} {E : Value → Shared → Prop} {i : Nat} {x : Str} {v : V} {u : Value} {Q : Unit → Shared → Prop} (I : Inv X pins σ H s) (hN : X.N.Nodup) (hi : X.N[i]? = some x) (hx : Loc X.env.scope x) (r : RelV v u)
  (h : ∀ s', Inv X pins (σ.set i (some v)) H s' → (∃ a, Heap.SameBut a s.heap s'.heap ∧ (a = X.env.locals ∨ X.env.cells.lookup x = some a)) → Q () s') (hf : X.fn x = true ∨ X.env.scope.names.lookup x = some .local := by first | exact .inl rfl | exact .inr rfl | assumption) : wpAny M A (storeName X.env x u) Q E s := by
 obtain ⟨m, hn, hl⟩ := id I.loc
 have hcls : (X.env.scope.kind == .class || (X.env.scope.kind == .module && X.env.locals != X.env.globals)) = false := by rw [I.ok.kind]; rfl
 have hiσ : i < σ.length := by rw [I.len]; exact (List.getElem?_eq_some_iff.mp hi).1
 have cne := I.cne
 have tracked : ∀ {a : Addr} {h' : Heap}, (∃ o, s.heap.get? a = some o ∧ H a = none) → Heap.SameBut a s.heap h' → HOk X.prog X.w H h' := fun {a h'} ha hs b ob e => by
  obtain ⟨_, _, hfree⟩ := ha
  refine (I.hok b ob e).stay (fun c w' hc q => (hs.2 c ?_).trans q) (fun _ q => q) fun _ _ q => q
  rintro rfl
  rcases hc with rfl | hc
  ·rw [hfree] at e; cases e
  ·rw [hfree] at hc; cases hc
 rcases hx with hk | hk
 ·refine wpAny_storeName_local hk hn (fun h' hn' hs => ?_) hcls
  obtain ⟨oL, _, _, hoL, _⟩ := id hn
  refine h _ ⟨I.ok, I.os, I.bare, ⟨fun b o e n hb hx => ?_, fun b o e n hb hx => ?_, I.base.free, fun b o e hx => ?_, I.base.tups, I.base.frzs, I.base.tbls⟩, ⟨_, hn', fun j y v' e1 e2 e3 => ?_⟩, fun y c e => ?_, I.free, I.freeC, fun p hp => ?_, tracked ⟨oL, hoL, I.free⟩ hs, by simpa using I.len⟩ ⟨_, hs, .inl rfl⟩
  ·exact (hs.2 b (Nat.ne_of_lt (Nat.lt_of_lt_of_le (Heap.lt_size e) I.ok.above))).trans (I.base.keep b o e n hb hx)
  ·obtain ⟨sl, e1⟩ := I.base.slot b o e n hb hx
   exact ⟨sl, (hs.2 b (Nat.ne_of_lt (Nat.lt_of_lt_of_le (Heap.lt_size e) I.ok.above))).trans e1⟩
  ·obtain ⟨o', e1⟩ := I.base.there b o e hx
   exact ⟨o', (hs.2 b (Nat.ne_of_lt (Nat.lt_of_lt_of_le (Heap.lt_size e) I.ok.above))).trans e1⟩
  ·by_cases hj : j = i
   ·subst hj
    rw [hi] at e1; cases e1
    rw [List.getElem?_set_self hiσ] at e2
    cases e2
    exact ⟨u, r, .inl ⟨hk, by simp⟩⟩
   ·rw [List.getElem?_set_ne (Ne.symm hj)] at e2
    obtain ⟨u', r', q⟩ := hl j y v' e1 e2 e3
    refine ⟨u', r', ?_⟩
    rcases q with ⟨k, e⟩ | ⟨k, c, e, z⟩
    ·refine .inl ⟨k, ?_⟩
     have : y ≠ x := fun e => hj (nodup_ix hN e1 (e ▸ hi))
     simp [this, e]
    ·exact .inr ⟨k, c, e, z.sameBut hs (cne y c e)⟩
  ·obtain ⟨w', z⟩ := I.cell y c e
   exact ⟨w', z.sameBut hs (cne y c e)⟩
  ·obtain ⟨e, n, ne, nf, d⟩ := I.pin p hp
   exact ⟨(hs.2 p.1 ne).trans e, n, ne, nf, d⟩
 ·have hfn : X.fn x = true := by
   rcases hf with z | z
   ·exact z
   ·rw [z] at hk; cases hk
  obtain ⟨c, hc⟩ := I.ok.has x (.inl hk)
  obtain ⟨w', z⟩ := I.cell x c hc
  refine wpAny_storeName_cell I.ok.kind hk hc z (fun h' hc' hs => ?_)
  obtain ⟨oc, hoc, hocd⟩ := id z
  refine h { s with heap := h' } ⟨I.ok, I.os, I.bare, ⟨fun b o e n hb hx => ?_, fun b o e n hb hx => ?_, I.base.free, fun b o e hx => ?_, I.base.tups, I.base.frzs, I.base.tbls⟩, ⟨m, hn.sameBut hs (Ne.symm (cne x c hc)), fun j y v' e1 e2 e3 => ?_⟩, fun y c' e => ?_, I.free, I.freeC, fun p hp => ?_, tracked ⟨oc, hoc, I.freeC x c hc⟩ hs, by simpa using I.len⟩ ⟨c, hs, .inr hc⟩
  ·exact (hs.2 b (Nat.ne_of_lt (Nat.lt_of_lt_of_le (Heap.lt_size e) (I.ok.cab x c hfn hc)))).trans (I.base.keep b o e n hb hx)
  ·obtain ⟨sl, e1⟩ := I.base.slot b o e n hb hx
   exact ⟨sl, (hs.2 b (Nat.ne_of_lt (Nat.lt_of_lt_of_le (Heap.lt_size e) (I.ok.cab x c hfn hc)))).trans e1⟩
  ·obtain ⟨o', e1⟩ := I.base.there b o e hx
   exact ⟨o', (hs.2 b (Nat.ne_of_lt (Nat.lt_of_lt_of_le (Heap.lt_size e) (I.ok.cab x c hfn hc)))).trans e1⟩
  ·by_cases hj : j = i
   ·subst hj
    rw [hi] at e1; cases e1
    rw [List.getElem?_set_self hiσ] at e2
    cases e2
    exact ⟨u, r, .inr ⟨.inl hk, c, hc, hc'⟩⟩
   ·rw [List.getElem?_set_ne (Ne.symm hj)] at e2
    obtain ⟨u', r', q⟩ := hl j y v' e1 e2 e3
    refine ⟨u', r', ?_⟩
    rcases q with q | ⟨k, c', e, z'⟩
    ·exact .inl q
    ·refine .inr ⟨k, c', e, z'.sameBut hs ?_⟩
     rintro rfl
     exact hj (nodup_ix hN e1 (I.ok.inj _ _ _ e hc ▸ hi))
  ·by_cases hcc : c' = c
   ·subst hcc; exact ⟨_, hc'⟩
   ·obtain ⟨w2, z2⟩ := I.cell y c' e
    exact ⟨w2, z2.sameBut hs hcc⟩
  ·obtain ⟨e, n, ne, nf, d⟩ := I.pin p hp
   refine ⟨(hs.2 p.1 ?_).trans e, n, ne, nf, d⟩
   intro q
   rw [q, hoc] at e
   have q' : oc = p.2 := Option.some.inj e
   exact d w' (by rw [← q']; exact hocd)
theorem store_ok {M : Model} {A : Around} {E : Value → Shared → Prop} {i : Nat} {x : Str} {v : V} {u : Value} {Q : Unit → Shared → Prop} (I : Inv X pins σ H s) (hN : X.N.Nodup) (hi : X.N[i]? = some x) (hx : Loc X.env.scope x) (r : RelV v u)
  (h : ∀ s', Inv X pins (σ.set i (some v)) H s' → Q () s') (hf : X.fn x = true ∨ X.env.scope.names.lookup x = some .local := by first | exact .inl rfl | exact .inr rfl | assumption) : wpAny M A (storeName X.env x u) Q E s :=
 store_ok2 I hN hi hx r (fun s' I' _ => h s' I') hf
theorem Inv.call' {s' : Shared} {ch : List Addr} (I : Inv X pins σ H s) (ho : s'.os = s.os) (u : Un (frs X.stack) ch H H' s.heap s'.heap) (hok : HOk X.prog X.w H' s'.heap) (hg : AllBare s'.gens)
  (hch : ∀ b ∈ ch, (b ∈ X.ex ∨ X.s₀.heap.objs.size ≤ b) ∧ b ≠ X.env.locals ∧ (∀ x c, X.env.cells.lookup x = some c → c ≠ b) ∧ ∀ p ∈ X.pn ++ pins, p.1 ≠ b) : Inv X pins σ H' s' := by
 obtain ⟨h', g', d', t', o'⟩ := s'
 have e : o' = s.os := ho
 subst e
 exact I.call (g' := g') (t' := t') (d' := d') u hok hg hch
end
abbrev XK := Value → Option Addr → Hp → Prop
abbrev St := List (Option V)
abbrev VK := V → Hp → Prop
abbrev TE := St → Hp → VK → Prop
abbrev TT := St → Hp → (Bool → Hp → Prop) → Prop
abbrev TA := St → Hp → (List V → Hp → Prop) → Prop
structure Ends where
 nx : St → Hp → Prop
 rt : VK
 bk : St → Hp → Prop := fun _ _ => False
 ct : St → Hp → Prop := fun _ _ => False
abbrev TS := Ends → St → Hp → Prop
def EP (X : Cx) (pins : List (Addr × Obj)) (σ : St) (Q : VK) (u : Value) (s' : Shared) : Prop := ∃ v H', Inv X pins σ H' s' ∧ RelV v u ∧ Q v H'
def TP (X : Cx) (pins : List (Addr × Obj)) (σ : St) (Q : Bool → Hp → Prop) (b : Bool) (s' : Shared) : Prop := ∃ H', Inv X pins σ H' s' ∧ Q b H'
def AP (X : Cx) (pins : List (Addr × Obj)) (σ : St) (Q : List V → Hp → Prop) (us : List Value) (s' : Shared) : Prop := ∃ vs H', Inv X pins σ H' s' ∧ Vals vs us ∧ Q vs H'
def SP (X : Cx) (pins : List (Addr × Obj)) (D : Ends) (f : Flow) (s' : Shared) : Prop :=
 match f with
 | .next => ∃ σ' H', Inv X pins σ' H' s' ∧ D.nx σ' H'
 | .brk => ∃ σ' H', Inv X pins σ' H' s' ∧ D.bk σ' H'
 | .cont => ∃ σ' H', Inv X pins σ' H' s' ∧ D.ct σ' H'
 | .ret u => ∃ v σ' H', Inv X pins σ' H' s' ∧ RelV v u ∧ D.rt v H'
def PE (X : Cx) (e : Expr) (t : TE) : Prop :=
 ∀ (pins : List (Addr × Obj)) (s : Shared) (σ : St) (H : Hp) (Q : VK), Inv X pins σ H s → t σ H Q → wpAny (model X.prog X.w) X.A (eval e X.env) (EP X pins σ Q) X.xe s
def PT (X : Cx) (e : Expr) (t : TT) : Prop :=
 ∀ (pins : List (Addr × Obj)) (s : Shared) (σ : St) (H : Hp) (Q : Bool → Hp → Prop), Inv X pins σ H s → t σ H Q → wpAny (model X.prog X.w) X.A (isTrue e X.env (eval e X.env)) (TP X pins σ Q) X.xe s
def PW (X : Cx) (e : Expr) (t : TT) : Prop :=
 ∀ (whole : Sem Value) (pins : List (Addr × Obj)) (s : Shared) (σ : St) (H : Hp) (Q : Bool → Hp → Prop), Inv X pins σ H s → t σ H Q → wpAny (model X.prog X.w) X.A (isTrue e X.env whole) (TP X pins σ Q) X.xe s
theorem PW.pt {X : Cx} {e : Expr} {t : TT} (h : PW X e t) : PT X e t := h _
def PA (X : Cx) (es : List Expr) (t : TA) : Prop :=
 ∀ (pos : Pos) (pins : List (Addr × Obj)) (s : Shared) (σ : St) (H : Hp) (Q : List V → Hp → Prop), Inv X pins σ H s → t σ H Q → wpAny (model X.prog X.w) X.A (spliced (backTo pos (starEach es X.env))) (AP X pins σ Q) X.xe s
def PS (X : Cx) (st : Stmt) (t : TS) : Prop :=
 ∀ (pins : List (Addr × Obj)) (s : Shared) (σ : St) (H : Hp) (D : Ends), Inv X pins σ H s → t D σ H → wpAny (model X.prog X.w) X.A (exec st X.env) (SP X pins D) X.xe s
def PSs (X : Cx) (st : List Stmt) (t : TS) : Prop :=
 ∀ (pins : List (Addr × Obj)) (s : Shared) (σ : St) (H : Hp) (D : Ends), Inv X pins σ H s → t D σ H → wpAny (model X.prog X.w) X.A (execs st X.env) (SP X pins D) X.xe s
theorem thn {α : Type} {t : Sem α} {Q Q' : α → Shared → Prop} {M : Model} {A : Around} {E : Value → Shared → Prop} {s : Shared} (h : wpAny M A t Q E s) (hQ : ∀ a s, Q a s → Q' a s) : wpAny M A t Q' E s := wpAny_mono h hQ fun _ _ x => x
end L2
namespace L2
open PySem PySem.Spec PyProof.Rows
section
variable {X : Cx}
theorem bin {a b : Expr} {ta tb : TE} (ha : PE X a ta) (hb : PE X b tb) {pins : List (Addr × Obj)} {s : Shared} {σ : St} {H : Hp} {R : V → V → Hp → Prop} (I : Inv X pins σ H s) (h : ta σ H fun x H1 => tb σ H1 fun y H2 => R x y H2)
  {α : Type} {Q : α → Shared → Prop} {f : Value → Value → Sem α}
  (hf : ∀ v u s2 x y H2, Inv X pins σ H2 s2 → RelV x v → RelV y u → R x y H2 → wpAny (model X.prog X.w) X.A (f v u) Q X.xe s2) :
  wpAny (model X.prog X.w) X.A (eval a X.env) (fun v s₁ => wpAny (model X.prog X.w) X.A (eval b X.env) (fun u s₂ => wpAny (model X.prog X.w) X.A (f v u) Q X.xe s₂) X.xe s₁) X.xe s := by
 refine thn (ha pins s σ H _ I h) fun v s1 ⟨x, H1, I1, r1, q1⟩ => ?_
 refine thn (hb pins s1 σ H1 _ I1 q1) fun u s2 ⟨y, H2, I2, r2, q2⟩ => ?_
 exact hf v u s2 x y H2 I2 r1 r2 q2
def tVar (i : Nat) : TE := fun σ H Q => ∃ v, σ[i]? = some (some v) ∧ Q v H
def tC (v : V) : TE := fun _ H Q => Q v H
theorem pe_var {i : Nat} {x : Str} {pos : Pos} (hN : X.N[i]? = some x) (hv : Vis X.env.scope x) (hd : (x == ("__debug__" : Str)) = false := by decide) (hcd : (x == ("__classdict__" : Str)) = false := by decide) : PE X (.Name x pos) (tVar i) := by
 intro pins s σ H Q I h
 obtain ⟨v, e, h⟩ := h
 obtain ⟨m, hn, hl⟩ := I.loc
 obtain ⟨u, r, l⟩ := hl i x v hN e hv
 have fin : EP X pins σ Q u s := ⟨v, H, I, r, h⟩
 rcases l with ⟨hk, hm⟩ | ⟨hk, c, hc, hcell⟩
 ·exact wpAny_Name (wpAny_loadName_local I.ok.kind hk hn hm fin) hd
 ·rcases hk with hk | hk
  ·exact wpAny_Name (wpAny_loadName_cell I.ok.kind hk hc hcell fin) hd
  ·exact wpAny_Name (wpAny_loadName_free I.ok.kind hk hc hcell fin hcd) hd
theorem pe_int {i j pos} : PE X (.Constant (.int i) j pos) (tC (.int i)) := fun _ _ _ H _ I h => wpAny_Constant_int ⟨.int i, H, I.tok _, ⟨_, rfl⟩, h⟩
theorem pe_bl {b j pos} : PE X (.Constant (.bool b) j pos) (tC (.bl b)) := fun _ _ _ H _ I h => Constant_bool ⟨.bl b, H, I, rfl, h⟩
theorem pe_non {j pos} : PE X (.Constant .none j pos) (tC .non) := fun _ _ _ H _ I h => Constant_none ⟨.non, H, I, rfl, h⟩
theorem pe_str {x j pos} : PE X (.Constant (.str x) j pos) (tC (.str x)) := fun _ _ _ H _ I h => Calls.Constant_str ⟨.str x, H, I.tok _, ⟨_, rfl⟩, h⟩
def Gl (X : Cx) (x : Str) : Prop := X.env.kindOf x = some .globalImplicit
theorem ld_glob {E : Value → Shared → Prop} {pins : List (Addr × Obj)} {s : Shared} {σ : St} {H : Hp} {x : Str} {u : Value} {pos : Pos} {Q : Value → Shared → Prop} (I : Inv X pins σ H s) (hg : Gl X x) (hm : X.mg x = some u) (h : Q u s)
  (hd : (x == ("__debug__" : Str)) = false := by decide) : wpAny (model X.prog X.w) X.A (eval (.Name x pos) X.env) Q E s :=
 Calls.Name_function_global I.ok.kind hg (Calls.loadGlobal_global (by rw [I.ok.glob]; exact I.mod.glob.keeps I.bk) hm h) hd
theorem ld_blt {E : Value → Shared → Prop} {pins : List (Addr × Obj)} {s : Shared} {σ : St} {H : Hp} {x : Str} {u : Value} {pos : Pos} {Q : Value → Shared → Prop} (I : Inv X pins σ H s) (hg : Gl X x) (hm : X.mg x = none) (hv : bootBuiltins x = some u) (h : Q u s)
  (hn : x ≠ "__name__" := by decide) (hd : (x == ("__debug__" : Str)) = false := by decide) : wpAny (model X.prog X.w) X.A (eval (.Name x pos) X.env) Q E s := by
 obtain ⟨mb, h1, h2⟩ := I.mod.blt
 exact Calls.Name_function_global I.ok.kind hg (Calls.loadGlobal_builtin (by rw [I.ok.glob]; exact I.mod.glob.keeps I.bk) hm (by rw [I.ok.blt]; exact h1.keeps I.bk) ((h2 x hn).trans hv) h) hd
theorem pe_glob {x : Str} {v : V} {u : Value} {pos : Pos} (hg : Gl X x) (hm : X.mg x = some u) (r : RelV v u) (hd : (x == ("__debug__" : Str)) = false := by decide) : PE X (.Name x pos) (tC v) :=
 fun _ _ _ H _ I h => ld_glob I hg hm ⟨v, H, I, r, h⟩ hd
theorem pe_bltn {x : Str} {v : V} {u : Value} {pos : Pos} (hg : Gl X x) (hm : X.mg x = none) (hv : bootBuiltins x = some u) (r : RelV v u) (hn : x ≠ "__name__" := by decide) (hd : (x == ("__debug__" : Str)) = false := by decide) : PE X (.Name x pos) (tC v) :=
 fun _ _ _ H _ I h => ld_blt I hg hm hv ⟨v, H, I, r, h⟩ hn hd
variable {a b : Expr} {ta tb : TE} {pos : Pos}
def tB (t : TE) : TT := fun σ H Q => t σ H fun x H1 => ∃ c, x = .bl c ∧ Q c H1
variable {tA tB' : TT} {rest : List Expr}
def tNot (t : TT) : TT := fun σ H Q => t σ H fun c H1 => Q (!c) H1
theorem pw_and1 (ha : PT X a tA) : PW X (.BoolOp .And [a] pos) tA := by
 intro wh pins s σ H Q I h
 refine isTrue_and (thn (ha pins s σ H Q I h) fun c s1 e => ?_)
 cases c with
 | true => exact isTrue_and_nil e
 | false => exact e
theorem pw_or1 (ha : PT X a tA) : PW X (.BoolOp .Or [a] pos) tA := by
 intro wh pins s σ H Q I h
 refine isTrue_or (thn (ha pins s σ H Q I h) fun c s1 e => ?_)
 cases c with
 | false => exact isTrue_or_nil e
 | true => exact e
theorem pt_not (ha : PT X a tA) : PT X (.UnaryOp .Not a pos) (tNot tA) := by
 intro pins s σ H Q I h
 exact isTrue_not (ha pins s σ H (fun c H1 => Q (!c) H1) I h)
theorem pe_one {op} {t : TE} (h : PE X a t) : PE X (.BoolOp op [a] pos) t := fun pins s σ H Q I hw => BoolOp_one (h pins s σ H Q I hw)
end
end L2
namespace L2
open PySem PySem.Spec PyProof.Rows
def SqL (K : PySem.W.Frag) (H : Hp) (a : Addr) (xs : List V) : Prop :=
 Rd H a (.lst xs) ∨
  ∃ (o : Obj) (its : Array Value) (n : Nat), K.lookup a = some o ∧ o.cls = .type "list" ∧ o.dict = none ∧ o.data = .seq its n ∧ its.size ≤ sizeLine ∧ Vals xs its.toList
def SqT (K : PySem.W.Frag) (H : Hp) (a : Addr) (xs : List V) : Prop :=
 Rd H a (.tup xs) ∨
  ∃ (o : Obj) (its : Array Value) (n : Nat), K.lookup a = some o ∧ o.cls = .type "tuple" ∧ o.data = .seq its n ∧ its.size ≤ sizeLine ∧ Vals xs its.toList
def absV : Value → Option V
 | .none => some .non
 | .bool b => some (.bl b)
 | .int i _ => some (.int i)
 | .str x _ => some (.str x)
 | .bytes b _ => some (.byt b)
 | .float b _ => some (.flt b)
 | .ref a => some (.ref a)
 | .type n => some (.ty n)
 | _ => none
theorem RelV.abs {x : V} {u : Value} (r : RelV x u) : absV u = some x := by
 cases x with
 | non => cases r; rfl
 | bl _ => cases r; rfl
 | int _ => obtain ⟨t, rfl⟩ := r; rfl
 | str _ => obtain ⟨t, rfl⟩ := r; rfl
 | byt _ => obtain ⟨t, rfl⟩ := r; rfl
 | flt _ => obtain ⟨t, rfl⟩ := r; rfl
 | ref _ => cases r; rfl
 | ty _ => cases r; rfl
theorem RelV.inj {x y : V} {u : Value} (r : RelV x u) (q : RelV y u) : x = y := Option.some.inj (r.abs.symm.trans q.abs)
theorem Vals.inj : ∀ {xs ys : List V} {us : List Value}, Vals xs us → Vals ys us → xs = ys
 | _, _, _, .nil, .nil => rfl
 | _, _, _, .cons r t, .cons r' t' => by rw [r.inj r', Vals.inj t t']
section
variable {X : Cx} {pins : List (Addr × Obj)} {σ : St} {H : Hp} {s : Shared} {a : Addr} {xs ys : List V}
theorem SqL.of {K : PySem.W.Frag} (h : H a = some (.lst xs)) : SqL K H a xs := .inl (.inl h)
theorem SqT.of {K : PySem.W.Frag} (h : H a = some (.tup xs)) : SqT K H a xs := .inl (.inl h)
theorem Inv.list (I : Inv X pins σ H s) (h : SqL X.K H a xs) : ∃ its : List Value, Vals xs its ∧ PlainL s.heap a its.toArray ∧ xs.length ≤ sizeLine := by
 rcases h with h | ⟨o, its, n, hk, hc, hd, hs, hz, r⟩
 ·obtain ⟨z, its, n, r, e⟩ := h.ok I.hok
  exact ⟨its, r, ⟨_, n, e, rfl, rfl, rfl⟩, z⟩
 ·refine ⟨its.toList, r, ⟨o, n, I.kIn a o hk, hc, hd, by simpa using hs⟩, ?_⟩
  have e := r.length
  simp only [Array.length_toList] at e
  omega
theorem Inv.tuple (I : Inv X pins σ H s) (h : SqT X.K H a xs) : ∃ its : List Value, Vals xs its ∧ IsTup s.heap a its.toArray ∧ xs.length ≤ sizeLine := by
 rcases h with h | ⟨o, its, n, hk, hc, hs, hz, r⟩
 ·obtain ⟨z, its, r, p⟩ := h.ok I.hok
  exact ⟨its, r, p, z⟩
 ·refine ⟨its.toList, r, ⟨o, I.kIn a o hk, hc, n, by simpa using hs⟩, ?_⟩
  have e := r.length
  simp only [Array.length_toList] at e
  omega
theorem Inv.list_inj (I : Inv X pins σ H s) (h : SqL X.K H a xs) (h' : SqL X.K H a ys) : xs = ys := by
 obtain ⟨its, r, ⟨o, n, e, _, _, d⟩, _⟩ := I.list h
 obtain ⟨its', r', ⟨o', n', e', _, _, d'⟩, _⟩ := I.list h'
 rw [e] at e'; cases e'
 rw [d] at d'
 injection d' with d1 _
 have : its = its' := by simpa using congrArg Array.toList d1
 subst this
 exact r.inj r'
theorem Inv.tuple_inj (I : Inv X pins σ H s) (h : SqT X.K H a xs) (h' : SqT X.K H a ys) : xs = ys := by
 obtain ⟨its, r, ⟨o, e, _, n, d⟩, _⟩ := I.tuple h
 obtain ⟨its', r', ⟨o', e', _, n', d'⟩, _⟩ := I.tuple h'
 rw [e] at e'; cases e'
 rw [d] at d'
 injection d' with d1 _
 have : its = its' := by simpa using congrArg Array.toList d1
 subst this
 exact r.inj r'
end
abbrev Cx.wish (X : Cx) (E : Value → Shared → Prop) : Cx := { X with xe := E }
abbrev Cx.nox (X : Cx) : Cx := X.wish fun _ _ => False
theorem Cx.Ok.wish {X : Cx} (ok : X.Ok) (E : Value → Shared → Prop) : (X.wish E).Ok :=
 ⟨ok.mod, ok.kind, ok.glob, ok.blt, ok.above, ok.inj, ok.has, ok.cab, ok.hd, ok.frames, ok.stk, ok.exf, ok.bs, ok.bsz, ok.noex, ok.exfs, ok.funs, ok.frf⟩
theorem Cx.Ok.unwish {X : Cx} {E : Value → Shared → Prop} (ok : (X.wish E).Ok) : X.Ok :=
 ⟨ok.mod, ok.kind, ok.glob, ok.blt, ok.above, ok.inj, ok.has, ok.cab, ok.hd, ok.frames, ok.stk, ok.exf, ok.bs, ok.bsz, ok.noex, ok.exfs, ok.funs, ok.frf⟩
section
variable {X : Cx} {pins : List (Addr × Obj)} {σ : St} {H : Hp} {s : Shared} {E : Value → Shared → Prop}
theorem Inv.wish (I : Inv X pins σ H s) (E : Value → Shared → Prop) : Inv (X.wish E) pins σ H s := ⟨I.ok.wish E, I.os, I.bare, I.base, I.loc, I.cell, I.free, I.freeC, I.pin, I.hok, I.len⟩
theorem Inv.unwish (I : Inv (X.wish E) pins σ H s) : Inv X pins σ H s := ⟨I.ok.unwish, I.os, I.bare, I.base, I.loc, I.cell, I.free, I.freeC, I.pin, I.hok, I.len⟩
theorem SP.unwish {D : Ends} {f : Flow} {s' : Shared} (h : SP (X.wish E) pins D f s') : SP X pins D f s' := by
 cases f with
 | next => obtain ⟨σ', H', I, q⟩ := h; exact ⟨σ', H', I.unwish, q⟩
 | brk => obtain ⟨σ', H', I, q⟩ := h; exact ⟨σ', H', I.unwish, q⟩
 | cont => obtain ⟨σ', H', I, q⟩ := h; exact ⟨σ', H', I.unwish, q⟩
 | ret u => obtain ⟨v, σ', H', I, r, q⟩ := h; exact ⟨v, σ', H', I.unwish, r, q⟩
theorem PSs.nox {st : List Stmt} {t : TS} (h : PSs X.nox st t) : PSs X st t := fun pins s σ H D I hw =>
 wpAny_mono (h pins s σ H D (I.wish _) hw) (fun _ _ q => q.unwish) fun _ _ z => False.elim z
end
section
variable {X : Cx} {st : Stmt} {rest : List Stmt} {t u : TS} {e : Expr} {te : TE} {pos : Pos}
def tNext : TS := fun D σ H => D.nx σ H
def tSeq (t u : TS) : TS := fun D σ H => t { D with nx := u D } σ H
theorem pss_nil : PSs X [] tNext := fun _ _ σ H _ I h => wpAny_execs_nil ⟨σ, H, I, h⟩
theorem pss_cons (h1 : PS X st t) (h2 : PSs X rest u) : PSs X (st :: rest) (tSeq t u) := by
 intro pins s σ H D I h
 refine wpAny_execs_cons (thn (h1 pins s σ H { D with nx := u D } I h) fun f s1 q => ?_)
 cases f with
 | next =>
  obtain ⟨σ', H', I', q⟩ := q
  exact h2 pins s1 σ' H' D I' q
 | ret v => exact q
 | brk => exact q
 | cont => exact q
theorem pss_one (h1 : PS X st t) : PSs X [st] t := by
 intro pins s σ H D I h
 refine wpAny_execs_cons (thn (h1 pins s σ H D I h) fun f s1 q => ?_)
 cases f with
 | next => exact wpAny_execs_nil q
 | ret v => exact q
 | brk => exact q
 | cont => exact q
theorem Inv.quiet {pins : List (Addr × Obj)} {σ : St} {H : Hp} {s : Shared} (I : Inv X pins σ H s) : interactive X.env = false := by simp [interactive, I.ok.kind]
def tDrop (te : TE) : TS := fun D σ H => te σ H fun _ H1 => D.nx σ H1
theorem ps_expr (he : PE X e te) (hs : swapsWith e none pos.line X.env = pure false := by rfl) : PS X (.Expr e pos) (tDrop te) := by
 intro pins s σ H D I h
 exact wpAny_Expr_any (thn (he pins s σ H _ I h) fun v s1 ⟨x, H1, I1, r1, q1⟩ => ⟨σ, H1, I1, q1⟩) I.quiet hs
def tRet (te : TE) : TS := fun D σ H => te σ H D.rt
theorem ps_ret (he : PE X e te) : PS X (.Return (some e) pos) (tRet te) := by
 intro pins s σ H D I h
 exact wpAny_Return_some (thn (he pins s σ H _ I h) fun v s1 ⟨x, H1, I1, r1, q1⟩ => ⟨x, σ, H1, I1, r1, q1⟩)
def tNever : TS := fun _ _ _ => False
theorem ps_never : PS X st tNever := fun _ _ _ _ _ _ h => h.elim
end
abbrev TG := V → St → Hp → (St → Hp → Prop) → Prop
abbrev TGs := List V → St → Hp → (St → Hp → Prop) → Prop
def PG (X : Cx) (target : Expr) (t : TG) : Prop :=
 ∀ (pins : List (Addr × Obj)) (s : Shared) (σ : St) (H : Hp) (v : V) (u : Value) (Q : St → Hp → Prop), Inv X pins σ H s → RelV v u → t v σ H Q →
  wpAny (model X.prog X.w) X.A (assign target X.env u) (fun _ s' => ∃ σ' H', Inv X pins σ' H' s' ∧ Q σ' H') X.xe s
def PGs (X : Cx) (ts : List Expr) (t : TGs) : Prop :=
 ∀ (pins : List (Addr × Obj)) (s : Shared) (σ : St) (H : Hp) (vs : List V) (us : List Value) (Q : St → Hp → Prop), Inv X pins σ H s → Vals vs us → t vs σ H Q →
  wpAny (model X.prog X.w) X.A (assignInOrder ((assignEach ts X.env).map (·.2)) us) (fun _ s' => ∃ σ' H', Inv X pins σ' H' s' ∧ Q σ' H') X.xe s
abbrev TSet := V → V → V → Hp → (Hp → Prop) → Prop
def PSet (X : Cx) (t : TSet) : Prop :=
 ∀ (pins : List (Addr × Obj)) (s : Shared) (σ : St) (H : Hp) (o i v : V) (ov iv u : Value) (Q : Hp → Prop), Inv X pins σ H s → RelV o ov → RelV i iv → RelV v u → t o i v H Q →
  wpAny (model X.prog X.w) X.A (setItem ov iv u) (fun _ s' => ∃ H', Inv X pins σ H' s' ∧ Q H') X.xe s
section
variable {X : Cx} {pos : Pos}
def gName (i : Nat) : TG := fun v σ H Q => Q (σ.set i (some v)) H
theorem pg_name {i : Nat} {x : Str} (hN : X.N.Nodup) (hi : X.N[i]? = some x) (hx : Loc X.env.scope x) (hf : X.fn x = true ∨ X.env.scope.names.lookup x = some .local := by first | exact .inl rfl | exact .inr rfl | assumption) : PG X (.Name x pos) (gName i) := by
 intro pins s σ H v u Q I r h
 exact wpAny_assign_Name (store_ok I hN hi hx r (fun s' I' => ⟨_, H, I', h⟩) hf)
def gNil : TGs := fun vs σ H Q => vs = [] ∧ Q σ H
def gCons (t : TG) (u : TGs) : TGs := fun vs σ H Q => ∃ v r, vs = v :: r ∧ t v σ H fun σ' H' => u r σ' H' Q
theorem pgs_nil : PGs X [] gNil := by
 intro pins s σ H vs us Q I r h
 obtain ⟨e, h⟩ := h
 subst e
 cases r
 exact assignInOrder_nil ⟨σ, H, I, h⟩
theorem pgs_cons {e : Expr} {es : List Expr} {t : TG} {u : TGs} (h1 : PG X e t) (h2 : PGs X es u)
  (hs : (assignEach (e :: es) X.env).map (·.2) = assign e X.env :: (assignEach es X.env).map (·.2) := by rfl) : PGs X (e :: es) (gCons t u) := by
 intro pins s σ H vs us Q I r h
 obtain ⟨v, vr, e1, h⟩ := h
 subst e1
 cases r with
 | cons r rr =>
  rw [hs]
  refine assignInOrder_cons (thn (h1 pins s σ H _ _ _ I r h) fun _ s1 ⟨σ1, H1, I1, q1⟩ => ?_)
  exact h2 pins s1 σ1 H1 _ _ Q I1 rr q1
def gTup (K : PySem.W.Frag) (n : Nat) (t : TGs) : TG := fun v σ H Q => ∃ a xs, v = .ref a ∧ SqT K H a xs ∧ xs.length = n ∧ t xs σ H Q
theorem pg_tup {es : List Expr} {k : Nat} {t : TGs} {n : Nat} (hc : X.calm = true) (h : PGs X es t)
  (hn : (assignEach es X.env).length = n := by rfl) (hst : (assignEach es X.env).findIdx? (·.1) = none := by rfl) : PG X (.Tuple es k pos) (gTup X.K n t) := by
 intro pins s σ H v u Q I r hw
 obtain ⟨a, xs, e1, hq, hl, hw⟩ := hw
 subst e1
 cases r
 obtain ⟨its, rv, ht, hz⟩ := I.tuple hq
 refine assign_Tuple_tuple (I.ok.hd hc) ht (by simp [hn, ← hl, rv.length]) hst fun h' hx => ?_
 have I1 : Inv X pins σ H { s with heap := h' } := I.kept (t' := s.toks) fun b o e => hx b o (Nat.ne_of_lt (Heap.lt_size e)) e
 exact h pins _ σ H xs _ Q I1 (by simpa using rv) hw
def gSub (to ti : TE) (t : TSet) : TG := fun v σ H Q => to σ H fun o H1 => ti σ H1 fun i H2 => t o i v H2 fun H3 => Q σ H3
theorem pg_sub {o i : Expr} {to ti : TE} {t : TSet} (ho : PE X o to) (hi : PE X i ti) (hs : PSet X t)
  (ha : ∀ v, assign (.Subscript o i pos) X.env v = (do
   let ov ← holding [v] (eval o X.env)
   let iv ← holding [v, ov] (eval i X.env)
   standAt pos
   holding [v, ov, iv] (setItem ov iv v)
   release [v, ov, iv] []) := by intro _; rfl) : PG X (.Subscript o i pos) (gSub to ti t) := by
 intro pins s σ H v u Q I r h
 rw [ha]
 refine wpAny_bind (wpAny_holding (thn (ho pins s σ H _ I h) fun ov s1 ⟨x, H1, I1, r1, q1⟩ => ?_))
 refine wpAny_bind (wpAny_holding (thn (hi pins s1 σ H1 _ I1 q1) fun iv s2 ⟨y, H2, I2, r2, q2⟩ => ?_))
 refine wpAny_bind (wpAny_standAt (wpAny_bind (wpAny_holding (thn (hs pins s2 σ H2 x y v ov iv u _ I2 r1 r2 r q2) fun _ s3 ⟨H3, I3, q3⟩ => ?_))))
 exact wpAny_release ⟨σ, H3, I3, q3⟩
def tAsg (te : TE) (g : TG) : TS := fun D σ H => te σ H fun x H1 => g x σ H1 D.nx
theorem ps_asg {tg e : Expr} {te : TE} {g : TG} (he : PE X e te) (hg : PG X tg g) (hs : swapsWithSole [tg] e pos.line X.env = pure false := by rfl) (hw : swappedStores [tg] e X.env = pure none := by rfl)
  (h1 : (assignEach [tg] X.env).map (·.2) = [assign tg X.env] := by rfl) : PS X (.Assign [tg] e pos) (tAsg te g) := by
 intro pins s σ H D I h
 refine wpAny_Assign_stores (thn (he pins s σ H _ I h) fun v s1 ⟨x, H1, I1, r1, q1⟩ => ?_) hs hw
 rw [h1]
 exact thn (hg pins s1 σ H1 x v _ I1 r1 q1) fun _ s2 q => q
theorem ps_set {i : Nat} {x : Str} {e : Expr} {te : TE} {pos' : Pos} (hN : X.N.Nodup) (hi : X.N[i]? = some x) (hx : Loc X.env.scope x) (he : PE X e te) (hs : swapsWith e (some (.Name x pos')) pos.line X.env = pure false := by rfl) (hf : X.fn x = true ∨ X.env.scope.names.lookup x = some .local := by first | exact .inl rfl | exact .inr rfl | assumption) :
  PS X (.Assign [.Name x pos'] e pos) (tAsg te (gName i)) := by
 intro pins s σ H D I h
 refine wpAny_Assign_Name (thn (he pins s σ H _ I h) fun v s1 ⟨y, H1, I1, r1, q1⟩ => ?_) hs
 exact store_ok I1 hN hi hx r1 (fun s2 I2 => ⟨_, H1, I2, q1⟩) hf
def tPar (i j : Nat) (ta : TA) : TS := fun D σ H => ta σ H fun vs H1 => ∃ v w, vs = [v, w] ∧ D.nx ((σ.set i (some v)).set j (some w)) H1
theorem ps_par {i j : Nat} {x y : Str} {a b : Expr} {ta : TA} {px py pt : Pos} {kt k2 pt2} (hc : X.calm = true) (hN : X.N.Nodup) (hi : X.N[i]? = some x) (hj : X.N[j]? = some y) (hij : i ≠ j)
  (hx : X.env.scope.names.lookup x = some .local) (hy : X.env.scope.names.lookup y = some .local) (ha : PA X [a, b] ta)
  (hw : swappedStores [.Tuple [.Name x px, .Name y py] kt pt] (.Tuple [a, b] k2 pt2) X.env = pure (some [x, y]))
  (hs : swapsWithSole [.Tuple [.Name x px, .Name y py] kt pt] (.Tuple [a, b] k2 pt2) pos.line X.env = pure false := by rfl) :
  PS X (.Assign [.Tuple [.Name x px, .Name y py] kt pt] (.Tuple [a, b] k2 pt2) pos) (tPar i j ta) := by
 intro pins s σ H D I h
 rw [exec_Assign_arm]
 refine wpAny_bind (wpAny_standAt ?_)
 rw [hs]
 refine wpAny_bind (wpAny_pure ?_)
 rw [if_neg (by decide)]
 refine wpAny_bind (Tuple_ (thn (ha _ pins s σ H _ I h) fun us s1 ⟨vs, H1, I1, r1, q1⟩ => ?_))
 obtain ⟨v, w, e1, q1⟩ := q1
 subst e1
 obtain ⟨u1, u2, rfl, rv, rw'⟩ : ∃ u1 u2, us = [u1, u2] ∧ RelV v u1 ∧ RelV w u2 := by
  cases r1 with
  | cons p q =>
   cases q with
   | cons p' q' =>
    cases q'
    exact ⟨_, _, rfl, p, p'⟩
 refine wpAny_newObj_type ?_ (by show 2 ≤ sizeLine; decide)
 have I2 : Inv X pins σ H1 { s1 with heap := s1.heap.push { cls := .type "tuple", data := .seq [u1, u2].toArray } } := I1.kept (t' := s1.toks) fun b o e => Heap.get?_push_of_some _ e
 rw [hw]
 refine wpAny_bind (wpAny_pure ?_)
 show wpAny (model X.prog X.w) X.A (do rule "assign.swapped-stores"; let items ← unpackItems (.ref s1.heap.objs.size) 2 none; assignInOrder [fun v => bindName X.env y v, fun v => bindName X.env x v] items.reverse; pure Flow.next) _ _ _
 refine wpAny_bind (wpAny_rule (wpAny_bind (unpackItems_tuple (items := #[u1, u2]) (I.ok.hd hc) (IsTup.new s1.heap _) fun h' hx' => ?_)))
 have I3 := I2.kept (h' := h') (t' := s1.toks) fun b o e => hx' b o (Nat.ne_of_lt (Heap.lt_size e)) e
 show wpAny _ _ (assignInOrder [fun v => bindName X.env y v, fun v => bindName X.env x v] [u2, u1] >>= fun _ => pure Flow.next) _ _ _
 refine wpAny_bind (assignInOrder_cons (wpAny_bindName (store_ok I3 hN hj (.inl hy) rw' (fun s2 I4 => ?_) (.inr hy))))
 refine assignInOrder_cons (wpAny_bindName (store_ok I4 hN hi (.inl hx) rv (fun s3 I5 => assignInOrder_nil (wpAny_pure ?_)) (.inr hx)))
 rw [List.set_comm _ _ (Ne.symm hij)] at I5
 exact ⟨_, H1, I5, q1⟩
end
section
variable {X : Cx} {pos : Pos}
end
structure It where
 go : Nat → Hp → Prop
 yld : Nat → Hp → V → Hp → Prop
 stop : Nat → Hp → Prop
def FpOk (X : Cx) (pins : List (Addr × Obj)) (H : Hp) (b : Addr) : Prop :=
 H b = none ∧ b ≠ X.env.locals ∧ b ∉ X.fs ∧ (b ∈ X.ex ∨ X.s₀.heap.objs.size ≤ b) ∧ (∀ x c, X.env.cells.lookup x = some c → c ≠ b) ∧ ∀ p ∈ X.pn ++ pins, p.1 ≠ b
theorem Inv.fpOk {X : Cx} {pins : List (Addr × Obj)} {σ : St} {H H' : Hp} {s : Shared} {b : Addr} (I : Inv X pins σ H s) (hb : s.heap.objs.size ≤ b) (hn : H' b = none) : FpOk X pins H' b := by
 refine ⟨hn, Nat.ne_of_gt (Nat.lt_of_lt_of_le I.lt hb), I.nofs hb, .inr (Nat.le_trans I.sz hb), fun x c e z => ?_, fun p hp z => ?_⟩
 ·obtain ⟨v, q⟩ := I.cell x c e
  exact absurd (Nat.lt_of_lt_of_le q.lt (by rw [z]; exact hb)) (Nat.lt_irrefl _)
 ·exact absurd (Nat.lt_of_lt_of_le (Heap.lt_size (I.pin p hp).1) (by rw [z]; exact hb)) (Nat.lt_irrefl _)
structure Turn (P : Program) (w : World) (K : PySem.W.Frag) (tg : Expr) (J : It) (fp : List Addr) (it : Addr) (tn : Nat → Heap → Prop) : Prop where
 mem : it ∈ fp
 obj : ∀ i h, tn i h → ∀ b ∈ fp, ∃ o, h.get? b = some o ∧ ∀ v, o.data ≠ .cell v
 keep : ∀ i h h', tn i h → (∀ b ∈ fp, ∀ o, h.get? b = some o → h'.get? b = some o) → tn i h'
 item : ∀ (X : Cx), X.prog = P → X.w = w → X.K = K → X.calm = true → ∀ (i : Nat) (pins : List (Addr × Obj)) (s : Shared) (σ : St) (H : Hp) (E : Value → Shared → Prop), Inv X pins σ H s → (∀ b ∈ fp, FpOk X pins H b) → tn i s.heap → J.go i H →
  wpAny (model P w) X.A (pyNext (.ref it)) (fun r s1 => ∃ u, r = some u ∧
   wpAny (model P w) X.A (letOwnedTupleGo tg (.ref it) u) (fun _ s2 => ∃ x H', Inv X pins σ H' s2 ∧ RelV x u ∧ J.yld i H x H' ∧ tn (i + 1) s2.heap ∧ ∀ b ∈ fp, H' b = none) E s1) E s
 done : ∀ (X : Cx), X.prog = P → X.w = w → X.K = K → X.calm = true → ∀ (i : Nat) (pins : List (Addr × Obj)) (s : Shared) (σ : St) (H : Hp) (E : Value → Shared → Prop), Inv X pins σ H s → (∀ b ∈ fp, FpOk X pins H b) → tn i s.heap → J.stop i H →
  wpAny (model P w) X.A (pyNext (.ref it)) (fun r s1 => r = none ∧ Inv X pins σ H s1) E s
 self : ∀ (A : Around) (i : Nat) (s : Shared) (Q : Value → Shared → Prop) (E : Value → Shared → Prop), tn i s.heap → Q (.ref it) s → wpAny (model P w) A (pyIter (.ref it)) Q E s
abbrev TI := St → Hp → (It → Hp → Prop) → Prop
def PIE (X : Cx) (pins : List (Addr × Obj)) (σ : St) (tg : Expr) (R : It → Hp → Prop) (itv : Value) (s2 : Shared) : Prop :=
 ∃ (it : Addr) (fp : List Addr) (tn : Nat → Heap → Prop) (J : It) (H' : Hp), itv = .ref it ∧ Inv X pins σ H' s2 ∧ Turn X.prog X.w X.K tg J fp it tn ∧ tn 0 s2.heap ∧ (∀ b ∈ fp, FpOk X pins H' b) ∧ R J H'
def PI (X : Cx) (tg iter : Expr) (wi : TI) : Prop :=
 ∀ (pins : List (Addr × Obj)) (s : Shared) (σ : St) (H : Hp) (R : It → Hp → Prop), Inv X pins σ H s → wi σ H R →
  wpAny (model X.prog X.w) X.A (eval iter X.env) (fun v s1 => wpAny (model X.prog X.w) X.A (pyIter v) (PIE X pins σ tg R) X.xe s1) X.xe s
theorem go_of {M : Model} {A : Around} {E : Value → Shared → Prop} {s : Shared} {tg : Expr} {it : Addr} {u : Value} {o : Obj} {n : String} {vs : Array Value} {Q : Unit → Shared → Prop} (ho : s.heap.get? it = some o) (hc : o.cls = .type n) (hd : o.data = .fields vs)
    (hn : ["enumerate", "zip", "dict_itemiterator", "dict_reverseitemiterator", "odict_iterator", "itertools.zip_longest", "itertools.pairwise"].contains n = false) (hQ : Q () s) : wpAny M A (letOwnedTupleGo tg (.ref it) u) Q E s := by
  unfold letOwnedTupleGo
  cases tg <;> first
    | exact wpAny_pure hQ
    | (cases u <;> first
        | exact wpAny_pure hQ
        | (refine wpAny_bind (wpAny_load ho ?_)
           rw [hc, hd]
           show wpAny M A (if (["enumerate", "zip", "dict_itemiterator", "dict_reverseitemiterator", "odict_iterator", "itertools.zip_longest", "itertools.pairwise"].contains n && vs[0]? == some (rawInt _)) = true then _ else _) Q E s
           rw [if_neg (by intro h; rw [hn, Bool.false_and] at h; cases h)]
           exact wpAny_pure hQ))
def Itl (K : PySem.W.Frag) (a : Addr) : It :=
 ⟨fun i H => ∃ xs x, SqL K H a xs ∧ xs[i]? = some x, fun i H x H' => H' = H ∧ ∀ xs, SqL K H a xs → xs[i]? = some x, fun i H => ∃ xs, SqL K H a xs ∧ xs.length ≤ i⟩
def Itt (K : PySem.W.Frag) (a : Addr) : It :=
 ⟨fun i H => ∃ xs x, SqT K H a xs ∧ xs[i]? = some x, fun i H x H' => H' = H ∧ ∀ xs, SqT K H a xs → xs[i]? = some x, fun i H => ∃ xs, SqT K H a xs ∧ xs.length ≤ i⟩
def Itr (lo : Int) (n : Nat) : It := ⟨fun i _ => i < n, fun i H x H' => H' = H ∧ x = .int (lo + i), fun i _ => n ≤ i⟩
theorem turn_list {P : Program} {w : World} {K : PySem.W.Frag} {tg : Expr} (a it : Addr) : Turn P w K tg (Itl K a) [it] it (fun i h => h.IsListIter it a i) where
 mem := by simp
 obj := fun i h st b hb => by
  have e : b = it := by simpa using hb
  subst e
  obtain ⟨o, e, c, d⟩ := st
  exact ⟨o, e, fun v z => by rw [d] at z; cases z⟩
 keep := fun i h h' st k => st.at fun o e => k it (by simp) o e
 item := by
  intro X hP hw hK hc i pins s σ H E I hf st hg
  subst hP hw hK
  obtain ⟨xs, x, hq, hx⟩ := hg
  obtain ⟨its, rv, p, hz⟩ := I.list hq
  obtain ⟨u, hu, ru⟩ := rv.get hx
  obtain ⟨f0, f1, f2, f3, f4, f5⟩ := hf it (by simp)
  refine wpAny_pyNext_list_item st p.isList (x := u) (by simpa using hu) fun h' st' sb => ?_
  have I1 : Inv X pins σ H { s with heap := h' } := I.turned (t' := s.toks) (fun b o hb e => (sb.2 b hb).trans e) f0 f1 f3 f4 f5
  obtain ⟨o, e, c, d⟩ := id st'
  exact ⟨u, rfl, go_of (s := { s with heap := h' }) e c d (by decide) ⟨x, H, I1, ru, ⟨rfl, fun ys hy => by rw [I.list_inj hy hq]; exact hx⟩, st', fun b hb => (hf b hb).1⟩⟩
 done := by
  intro X hP hw hK hc i pins s σ H E I hf st hg
  subst hP hw hK
  obtain ⟨xs, hq, hx⟩ := hg
  obtain ⟨its, rv, p, hz⟩ := I.list hq
  obtain ⟨f0, f1, f2, f3, f4, f5⟩ := hf it (by simp)
  have hl := rv.length
  exact wpAny_pyNext_list_end (I.ok.hd hc) st p.isList (by simp; omega) fun h' eb => ⟨rfl, I.turned (t' := s.toks) (fun b o hb e => eb b o hb e) f0 f1 f3 f4 f5⟩
 self := fun _ _ _ _ _ st h => wpAny_pyIter_listiter st h
theorem turn_tuple {P : Program} {w : World} {K : PySem.W.Frag} {tg : Expr} (a it : Addr) : Turn P w K tg (Itt K a) [it] it (fun i h => h.IsTupleIter it a i) where
 mem := by simp
 obj := fun i h st b hb => by
  have e : b = it := by simpa using hb
  subst e
  obtain ⟨o, e, c, d⟩ := st
  exact ⟨o, e, fun v z => by rw [d] at z; cases z⟩
 keep := fun i h h' st k => st.at fun o e => k it (by simp) o e
 item := by
  intro X hP hw hK hc i pins s σ H E I hf st hg
  subst hP hw hK
  obtain ⟨xs, x, hq, hx⟩ := hg
  obtain ⟨its, rv, p, hz⟩ := I.tuple hq
  obtain ⟨u, hu, ru⟩ := rv.get hx
  obtain ⟨f0, f1, f2, f3, f4, f5⟩ := hf it (by simp)
  refine wpAny_pyNext_tuple_item st (show s.heap.IsTuple a its.toArray from p) (x := u) (by simpa using hu) fun h' st' sb => ?_
  have I1 : Inv X pins σ H { s with heap := h' } := I.turned (t' := s.toks) (fun b o hb e => (sb.2 b hb).trans e) f0 f1 f3 f4 f5
  obtain ⟨o, e, c, d⟩ := id st'
  exact ⟨u, rfl, go_of (s := { s with heap := h' }) e c d (by decide) ⟨x, H, I1, ru, ⟨rfl, fun ys hy => by rw [I.tuple_inj hy hq]; exact hx⟩, st', fun b hb => (hf b hb).1⟩⟩
 done := by
  intro X hP hw hK hc i pins s σ H E I hf st hg
  subst hP hw hK
  obtain ⟨xs, hq, hx⟩ := hg
  obtain ⟨its, rv, p, hz⟩ := I.tuple hq
  obtain ⟨f0, f1, f2, f3, f4, f5⟩ := hf it (by simp)
  have hl := rv.length
  exact wpAny_pyNext_tuple_end (I.ok.hd hc) st (show s.heap.IsTuple a its.toArray from p) (by simp; omega) fun h' eb => ⟨rfl, I.turned (t' := s.toks) (fun b o hb e => eb b o hb e) f0 f1 f3 f4 f5⟩
 self := fun _ _ _ _ _ st h => wpAny_pyIter_tupleiter st h
theorem turn_range {P : Program} {w : World} {K : PySem.W.Frag} {tg : Expr} (it : Addr) (lo : Int) (n : Nat) : Turn P w K tg (Itr lo n) [it] it (fun i h => IsRangeIter h it (lo + (i : Nat) * 1) ((n : Int) - (i : Nat)) 1) where
 mem := by simp
 obj := fun i h st b hb => by
  have e : b = it := by simpa using hb
  subst e
  exact ⟨_, st, fun v z => by
   have z' : Data.fields _ = Data.cell v := z
   cases z'⟩
 keep := fun i h h' st k => k it (by simp) _ st
 item := by
  intro X hP hw hK hc i pins s σ H E I hf st hg
  subst hP hw hK
  obtain ⟨f0, f1, f2, f3, f4, f5⟩ := hf it (by simp)
  have W := Walks.range (prog := X.prog) (w := X.w) (I.ok.hd hc) it lo 1 n
  refine W.item i s _ _ hg st fun v h' tk hv st' kk => ?_
  obtain ⟨t, rfl⟩ := hv
  have I1 : Inv X pins σ H { s with heap := h', toks := tk } := I.turned (fun b o hb e => kk b o (by simpa using hb) e) f0 f1 f3 f4 f5
  refine ⟨_, rfl, go_of (s := { s with heap := h', toks := tk }) (n := "range_iterator") st' rfl rfl (by decide) ⟨.int (lo + i), H, I1, ⟨t, ?_⟩, ⟨rfl, rfl⟩, st', fun b hb => (hf b hb).1⟩⟩
  rw [Int.mul_one]
 done := by
  intro X hP hw hK hc i pins s σ H E I hf st hg
  subst hP hw hK
  obtain ⟨f0, f1, f2, f3, f4, f5⟩ := hf it (by simp)
  exact wpAny_pyNext_range_end (I.ok.hd hc) st (by have : n ≤ i := hg; omega) fun h' eb => ⟨rfl, I.turned (t' := s.toks) (fun b o hb e => eb b o hb e) f0 f1 f3 f4 f5⟩
 self := fun _ _ _ _ _ st h => wpAny_pyIter_rangeiter st h
end L2
namespace L2
open PySem PySem.Spec PyProof.Rows
section
variable {X : Cx} {tg : Expr}
def iList (K : PySem.W.Frag) (tl : TE) : TI := fun σ H R => tl σ H fun x H1 => ∃ a, x = .ref a ∧ (∃ xs, SqL K H1 a xs) ∧ R (Itl K a) H1
def iTup (K : PySem.W.Frag) (tl : TE) : TI := fun σ H R => tl σ H fun x H1 => ∃ a, x = .ref a ∧ (∃ xs, SqT K H1 a xs) ∧ R (Itt K a) H1
theorem pi_list {l : Expr} {tl : TE} (hl : PE X l tl) : PI X tg l (iList X.K tl) := by
 intro pins s σ H R I h
 refine thn (hl pins s σ H _ I h) fun v s1 ⟨x, H1, I1, r1, q1⟩ => ?_
 obtain ⟨a, e, ⟨xs, hq⟩, q⟩ := q1
 subst e
 cases r1
 obtain ⟨its, rv, p, hz⟩ := I1.list hq
 refine wpAny_pyIter_list p.isList ?_
 refine ⟨s1.heap.objs.size, [s1.heap.objs.size], _, _, H1, rfl, I1.kept (t' := s1.toks) fun b o e => Heap.get?_push_of_some _ e, turn_list a _, ⟨_, Heap.get?_push_size _ rfl, rfl, rfl⟩, fun b hb => ?_, q⟩
 have e : b = s1.heap.objs.size := by simpa using hb
 subst e
 exact I1.fpOk (Nat.le_refl _) (I1.hok.fresh (Nat.le_refl _))
theorem pi_tup {l : Expr} {tl : TE} (hl : PE X l tl) : PI X tg l (iTup X.K tl) := by
 intro pins s σ H R I h
 refine thn (hl pins s σ H _ I h) fun v s1 ⟨x, H1, I1, r1, q1⟩ => ?_
 obtain ⟨a, e, ⟨xs, hq⟩, q⟩ := q1
 subst e
 cases r1
 obtain ⟨its, rv, p, hz⟩ := I1.tuple hq
 refine wpAny_pyIter_tuple (show s1.heap.IsTuple a its.toArray from p) ?_
 refine ⟨s1.heap.objs.size, [s1.heap.objs.size], _, _, H1, rfl, I1.kept (t' := s1.toks) fun b o e => Heap.get?_push_of_some _ e, turn_tuple a _, ⟨_, Heap.get?_push_size _ rfl, rfl, rfl⟩, fun b hb => ?_, q⟩
 have e : b = s1.heap.objs.size := by simpa using hb
 subst e
 exact I1.fpOk (Nat.le_refl _) (I1.hok.fresh (Nat.le_refl _))
theorem range_it {pins : List (Addr × Obj)} {σ : St} {H : Hp} {s : Shared} {R : It → Hp → Prop} {E : Value → Shared → Prop} {lo hi : Int} {t u v : Tok} {tk : Nat} (I : Inv X pins σ H s) (h1 : -(2 ^ 62) ≤ lo) (h2 : lo < 2 ^ 62) (h3 : -(2 ^ 62) ≤ hi) (h4 : hi < 2 ^ 62)
  (q : R (Itr lo (hi - lo).toNat) H) : wpAny (model X.prog X.w) X.A (pyIter (.ref s.heap.objs.size)) (PIE X pins σ tg R) E { s with heap := s.heap.push { cls := .type "range", data := .fields #[.int lo t, .int hi u, .int 1 v] }, toks := tk } := by
 refine wpAny_pyIter_range (IsRange.new ..) (small_one h1 h2 h3 h4) ?_
 have I1 : Inv X pins σ H { s with heap := s.heap.push { cls := .type "range", data := .fields #[.int lo t, .int hi u, .int 1 v] }, toks := tk } := I.kept fun b o e => Heap.get?_push_of_some _ e
 refine ⟨(s.heap.push { cls := .type "range", data := .fields #[.int lo t, .int hi u, .int 1 v] }).objs.size, [(s.heap.push { cls := .type "range", data := .fields #[.int lo t, .int hi u, .int 1 v] }).objs.size], _, _, H, rfl,
  I1.kept (t' := tk) fun b o e => Heap.get?_push_of_some _ e, turn_range _ lo (hi - lo).toNat, ?_, fun b hb => ?_, q⟩
 ·have e1 : lo + ((0 : Nat) : Int) * 1 = lo := by simp
  have e2 : (((hi - lo).toNat : Nat) : Int) - ((0 : Nat) : Int) = Builtin.Range.rangeSize lo hi 1 := by rw [rangeSize_one]; split <;> omega
  show IsRangeIter _ _ (lo + ((0 : Nat) : Int) * 1) ((((hi - lo).toNat : Nat) : Int) - ((0 : Nat) : Int)) 1
  rw [e1, e2]
  exact Heap.get?_push_size _ rfl
 ·have e : b = (s.heap.push { cls := .type "range", data := .fields #[.int lo t, .int hi u, .int 1 v] }).objs.size := by simpa using hb
  subst e
  exact I1.fpOk (Nat.le_refl _) (I1.hok.fresh (Nat.le_refl _))
def iRng1 (ta : TA) : TI := fun σ H R => ta σ H fun vs H1 => ∃ j : Int, vs = [.int j] ∧ -(2 ^ 62) ≤ j ∧ j < 2 ^ 62 ∧ R (Itr 0 j.toNat) H1
theorem pi_range1 {a : Expr} {ta : TA} {p pos : Pos} (hg : Gl X "range") (hm : X.mg "range" = none) (ha : PA X [a] ta) (hs : starEach [a] X.env = [(false, eval a X.env)] := by rfl) : PI X tg (.Call (.Name "range" p) [a] [] pos) (iRng1 ta) := by
 intro pins s σ H R I h
 refine Call_ (ld_blt I hg hm boot_range (PyProof.Rows.callWith_type1 (thn (ha pos pins s σ H _ I h) fun us s1 ⟨vs, H1, I1, r1, q1⟩ => ?_) hs rfl))
 obtain ⟨j, e, q1, q2, q⟩ := q1
 subst e
 cases r1 with
 | cons r rr =>
  cases rr
  obtain ⟨t, rfl⟩ := r
  exact call_range_1 (range_it I1 (by omega) (by omega) q1 q2 (by simpa using q))
def tFor (wi : TI) (g : TG) (tb : TS) : TS := fun D σ H => wi σ H fun J H1 => ∃ W : Nat → Nat → St → Hp → Prop, (∃ m, W 0 m σ H1) ∧ ∀ i m σ H, W i m σ H →
 (J.stop i H ∧ D.nx σ H) ∨ (J.go i H ∧ ∃ N : St → Hp → Prop, (∀ σ' H', N σ' H' → ∃ m', m' < m ∧ W (i + 1) m' σ' H') ∧ ∀ x H', J.yld i H x H' → g x σ H' fun σ2 H2 => tb { D with nx := N, ct := N, bk := D.nx } σ2 H2)
def pinsAt (fp : List Addr) (h : Heap) : List (Addr × Obj) := fp.filterMap fun b => (h.get? b).map fun o => (b, o)
theorem mem_pinsAt {fp : List Addr} {h : Heap} {b : Addr} {o : Obj} (hb : b ∈ fp) (e : h.get? b = some o) : (b, o) ∈ pinsAt fp h := List.mem_filterMap.mpr ⟨b, hb, by rw [e]; rfl⟩
theorem of_pinsAt {fp : List Addr} {h : Heap} {p : Addr × Obj} (hp : p ∈ pinsAt fp h) : p.1 ∈ fp ∧ h.get? p.1 = some p.2 := by
 obtain ⟨b, hb, e⟩ := List.mem_filterMap.mp hp
 cases q : h.get? b with
 | none => rw [q] at e; cases e
 | some o =>
  rw [q] at e
  have e' : (b, o) = p := Option.some.inj e
  subst e'
  exact ⟨hb, q⟩
theorem Inv.pinned {pins : List (Addr × Obj)} {σ : St} {H : Hp} {s : Shared} {fp : List Addr} (I : Inv X pins σ H s) (hf : ∀ b ∈ fp, FpOk X pins H b) (ho : ∀ b ∈ fp, ∃ o, s.heap.get? b = some o ∧ ∀ v, o.data ≠ .cell v) : Inv X (pins ++ pinsAt fp s.heap) σ H s :=
 I.pins_of fun p hp => (List.mem_append.mp hp).elim (fun z => I.pin p (List.mem_append_right _ z)) fun z => by
  obtain ⟨hb, e⟩ := of_pinsAt z
  obtain ⟨f0, f1, f2, _⟩ := hf p.1 hb
  obtain ⟨o, e', d⟩ := ho p.1 hb
  rw [e] at e'; cases e'
  exact ⟨e, f0, f1, f2, d⟩
theorem Inv.unpinned {pins pl : List (Addr × Obj)} {σ : St} {H : Hp} {s : Shared} (I : Inv X (pins ++ pl) σ H s) : Inv X pins σ H s := I.pins_of fun p hp => I.pin p (List.mem_append_right _ (List.mem_append_left _ hp))
theorem ps_for {iter : Expr} {body : List Stmt} {wi : TI} {g : TG} {tb : TS} {pos : Pos} (hp : PassesOwn (model X.prog X.w) X.A X.env X.xe) (hc : X.calm = true) (hi : PI X tg iter wi) (hg : PG X tg g) (hb : PSs X body tb)
  (hs : ∀ x, foldedSetIterable iter X.env x = pure x := by intro _; rfl) : PS X (.For tg iter body [] pos) (tFor wi g tb) := by
 intro pins s σ H D I h
 refine wpAny_For (thn (hi pins s σ H _ I h) fun v s1 h1 => thn h1 fun itv s2 h2 => ?_) hs
 obtain ⟨it, fp, tn, J, H2, e, I2, T, st2, f2, W, ⟨m0, w0⟩, turn⟩ := h2
 subst e
 -- what stays true of the iterator's objects through the loop
 have stat : ∀ {H' : Hp}, (∀ b ∈ fp, H' b = none) → ∀ b ∈ fp, FpOk X pins H' b := fun hn b hb => ⟨hn b hb, (f2 b hb).2⟩
 refine codeAny_forLoop_any (fun n s' => ∃ i σ' H', Inv X pins σ' H' s' ∧ tn i s'.heap ∧ (∀ b ∈ fp, H' b = none) ∧ W i n σ' H') ?_ m0 ⟨0, σ, H2, I2, st2, fun b hb => (f2 b hb).1, w0⟩
 rintro n s3 ⟨i, σ3, H3, I3, st3, fr3, w3⟩
 rcases turn i n σ3 H3 w3 with ⟨stop, qn⟩ | ⟨go, N, hN, step⟩
 ·refine wpAny_passesOwn hp (thn (T.done X rfl rfl rfl hc i pins s3 σ3 H3 X.xe I3 (stat fr3) st3 stop) fun r s4 ⟨hr, I4⟩ => ?_)
  subst hr
  exact wpAny_execs_nil ⟨σ3, H3, I4, qn⟩
 ·refine wpAny_passesOwn hp (thn (T.item X rfl rfl rfl hc i pins s3 σ3 H3 X.xe I3 (stat fr3) st3 go) fun r s4 ⟨u, hr, h4⟩ => ?_)
  subst hr
  refine wpAny_passesOwn hp (thn h4 fun _ s5 ⟨x, H5, I5, r5, y5, st5, fr5⟩ => ?_)
  have I5' := I5.pinned (stat fr5) (T.obj _ _ st5)
  refine wpAny_passesOwn hp (thn (hg _ s5 σ3 H5 x u _ I5' r5 (step x H5 y5)) fun _ s6 ⟨σ6, H6, I6, q6⟩ => ?_)
  refine wpAny_passesOwn hp (thn (hb _ s6 σ6 H6 _ I6 q6) fun f s7 q7 => ?_)
  have again : ∀ {σ7 : St} {H7 : Hp}, Inv X (pins ++ pinsAt fp s5.heap) σ7 H7 s7 → N σ7 H7 → ∃ m, m < n ∧ ∃ i σ' H', Inv X pins σ' H' s7 ∧ tn i s7.heap ∧ (∀ b ∈ fp, H' b = none) ∧ W i m σ' H' := fun {σ7 H7} I7 n7 => by
   obtain ⟨m', hm, w7⟩ := hN σ7 H7 n7
   refine ⟨m', hm, i + 1, σ7, H7, I7.unpinned, T.keep _ _ _ st5 fun b hb o e => (I7.pin (b, o) (List.mem_append_right _ (List.mem_append_right _ (mem_pinsAt hb e)))).1, fun b hb => ?_, w7⟩
   obtain ⟨o, e, d⟩ := T.obj _ _ st5 b hb
   exact (I7.pin (b, o) (List.mem_append_right _ (List.mem_append_right _ (mem_pinsAt hb e)))).2.1
  cases f with
  | next => obtain ⟨σ7, H7, I7, n7⟩ := q7; exact again I7 n7
  | cont => obtain ⟨σ7, H7, I7, n7⟩ := q7; exact again I7 n7
  | brk => obtain ⟨σ7, H7, I7, q7⟩ := q7; exact ⟨σ7, H7, I7.unpinned, q7⟩
  | ret v => obtain ⟨x7, σ7, H7, I7, r7, q7⟩ := q7; exact ⟨x7, σ7, H7, I7.unpinned, r7, q7⟩
end
theorem for_list {K : PySem.W.Frag} {a : Addr} {xs : List V} {g : TG} {tb : TS} {D : Ends} {σ : St} {H : Hp} (Pv : Nat → St → Hp → Prop) (h0 : Pv 0 σ H) (hl : ∀ i σ H, i ≤ xs.length → Pv i σ H → SqL K H a xs)
  (hs : ∀ i x σ H, xs[i]? = some x → Pv i σ H → g x σ H fun σ2 H2 => tb { D with nx := Pv (i + 1), ct := Pv (i + 1), bk := D.nx } σ2 H2) (hd : ∀ σ H, Pv xs.length σ H → D.nx σ H) :
  ∃ W : Nat → Nat → St → Hp → Prop, (∃ m, W 0 m σ H) ∧ ∀ i m σ H, W i m σ H →
   ((Itl K a).stop i H ∧ D.nx σ H) ∨ ((Itl K a).go i H ∧ ∃ N : St → Hp → Prop, (∀ σ' H', N σ' H' → ∃ m', m' < m ∧ W (i + 1) m' σ' H') ∧ ∀ x H', (Itl K a).yld i H x H' → g x σ H' fun σ2 H2 => tb { D with nx := N, ct := N, bk := D.nx } σ2 H2) := by
 refine ⟨fun i m σ H => m = xs.length - i ∧ i ≤ xs.length ∧ Pv i σ H, ⟨xs.length, by simp, Nat.zero_le _, h0⟩, ?_⟩
 rintro i m σ H ⟨rfl, hi, p⟩
 have q := hl i σ H hi p
 by_cases hlt : i < xs.length
 ·refine .inr ⟨⟨xs, xs[i], q, by simp [hlt]⟩, Pv (i + 1), fun σ' H' p' => ⟨xs.length - (i + 1), by omega, rfl, hlt, p'⟩, fun x H' y => ?_⟩
  obtain ⟨e, y⟩ := y
  subst e
  exact hs i x σ _ (y xs q) p
 ·have e : i = xs.length := by omega
  subst e
  exact .inl ⟨⟨xs, q, Nat.le_refl _⟩, hd σ H p⟩
theorem for_tup {K : PySem.W.Frag} {a : Addr} {xs : List V} {g : TG} {tb : TS} {D : Ends} {σ : St} {H : Hp} (Pv : Nat → St → Hp → Prop) (h0 : Pv 0 σ H) (hl : ∀ i σ H, i ≤ xs.length → Pv i σ H → SqT K H a xs)
  (hs : ∀ i x σ H, xs[i]? = some x → Pv i σ H → g x σ H fun σ2 H2 => tb { D with nx := Pv (i + 1), ct := Pv (i + 1), bk := D.nx } σ2 H2) (hd : ∀ σ H, Pv xs.length σ H → D.nx σ H) :
  ∃ W : Nat → Nat → St → Hp → Prop, (∃ m, W 0 m σ H) ∧ ∀ i m σ H, W i m σ H →
   ((Itt K a).stop i H ∧ D.nx σ H) ∨ ((Itt K a).go i H ∧ ∃ N : St → Hp → Prop, (∀ σ' H', N σ' H' → ∃ m', m' < m ∧ W (i + 1) m' σ' H') ∧ ∀ x H', (Itt K a).yld i H x H' → g x σ H' fun σ2 H2 => tb { D with nx := N, ct := N, bk := D.nx } σ2 H2) := by
 refine ⟨fun i m σ H => m = xs.length - i ∧ i ≤ xs.length ∧ Pv i σ H, ⟨xs.length, by simp, Nat.zero_le _, h0⟩, ?_⟩
 rintro i m σ H ⟨rfl, hi, p⟩
 have q := hl i σ H hi p
 by_cases hlt : i < xs.length
 ·refine .inr ⟨⟨xs, xs[i], q, by simp [hlt]⟩, Pv (i + 1), fun σ' H' p' => ⟨xs.length - (i + 1), by omega, rfl, hlt, p'⟩, fun x H' y => ?_⟩
  obtain ⟨e, y⟩ := y
  subst e
  exact hs i x σ _ (y xs q) p
 ·have e : i = xs.length := by omega
  subst e
  exact .inl ⟨⟨xs, q, Nat.le_refl _⟩, hd σ H p⟩
theorem for_range {lo : Int} {n : Nat} {g : TG} {tb : TS} {D : Ends} {σ : St} {H : Hp} (Pv : Nat → St → Hp → Prop) (h0 : Pv 0 σ H)
  (hs : ∀ i σ H, i < n → Pv i σ H → g (.int (lo + i)) σ H fun σ2 H2 => tb { D with nx := Pv (i + 1), ct := Pv (i + 1), bk := D.nx } σ2 H2) (hd : ∀ σ H, Pv n σ H → D.nx σ H) :
  ∃ W : Nat → Nat → St → Hp → Prop, (∃ m, W 0 m σ H) ∧ ∀ i m σ H, W i m σ H →
   ((Itr lo n).stop i H ∧ D.nx σ H) ∨ ((Itr lo n).go i H ∧ ∃ N : St → Hp → Prop, (∀ σ' H', N σ' H' → ∃ m', m' < m ∧ W (i + 1) m' σ' H') ∧ ∀ x H', (Itr lo n).yld i H x H' → g x σ H' fun σ2 H2 => tb { D with nx := N, ct := N, bk := D.nx } σ2 H2) := by
 refine ⟨fun i m σ H => m = n - i ∧ i ≤ n ∧ Pv i σ H, ⟨n, by simp, Nat.zero_le _, h0⟩, ?_⟩
 rintro i m σ H ⟨rfl, hi, p⟩
 by_cases hlt : i < n
 ·refine .inr ⟨hlt, Pv (i + 1), fun σ' H' p' => ⟨n - (i + 1), by omega, rfl, hlt, p'⟩, fun x H' y => ?_⟩
  obtain ⟨e, y⟩ := y
  subst e y
  exact hs i σ _ hlt p
 ·have e : i = n := by omega
  subst e
  exact .inl ⟨Nat.le_refl _, hd σ H p⟩
end L2
namespace L2
open PySem PySem.Spec PyProof.Rows
abbrev R2 := V → V → Hp → VK → Prop
def OpR (X : Cx) (f : Value → Value → Sem Value) (r : R2) : Prop :=
 ∀ (pins : List (Addr × Obj)) (s : Shared) (σ : St) (H : Hp) (x y : V) (v u : Value) (Q : VK), Inv X pins σ H s → RelV x v → RelV y u → r x y H Q →
  wpAny (model X.prog X.w) X.A (f v u) (EP X pins σ Q) X.xe s
def UnR (X : Cx) (f : Value → Sem Value) (r : V → Hp → VK → Prop) : Prop :=
 ∀ (pins : List (Addr × Obj)) (s : Shared) (σ : St) (H : Hp) (x : V) (v : Value) (Q : VK), Inv X pins σ H s → RelV x v → r x H Q →
  wpAny (model X.prog X.w) X.A (f v) (EP X pins σ Q) X.xe s
def CallR (X : Cx) (f : Value) (r : List V → Hp → VK → Prop) : Prop :=
 ∀ (pins : List (Addr × Obj)) (s : Shared) (σ : St) (H : Hp) (xs : List V) (us : List Value) (Q : VK), Inv X pins σ H s → Vals xs us → r xs H Q →
  wpAny (model X.prog X.w) X.A (call f us) (EP X pins σ Q) X.xe s
def tOp (r : R2) (ta tb : TE) : TE := fun σ H Q => ta σ H fun x H1 => tb σ H1 fun y H2 => r x y H2 Q
def tUn (r : V → Hp → VK → Prop) (ta : TE) : TE := fun σ H Q => ta σ H fun x H1 => r x H1 Q
def rI (C : Int → Int → Prop) (g : Int → Int → V) : R2 := fun x y H Q => ∃ i j, x = .int i ∧ y = .int j ∧ C i j ∧ Q (g i j) H
def rI0 (g : Int → Int → V) : R2 := fun x y H Q => ∃ i j, x = .int i ∧ y = .int j ∧ Q (g i j) H
def rU (g : Int → V) : V → Hp → VK → Prop := fun x H Q => ∃ i, x = .int i ∧ Q (g i) H
section
variable {X : Cx} {a b c : Expr} {ta tb tc : TE} {pos : Pos}
theorem binT (ha : PE X a ta) (hb : PE X b tb) {pins : List (Addr × Obj)} {s : Shared} {σ : St} {H : Hp} {R : V → V → Hp → Prop} (I : Inv X pins σ H s)
  (h : ta σ H fun x H1 => tb σ H1 fun y H2 => R x y H2) {Q : Value → Shared → Prop} {f : Value → Value → Sem Value}
  (hf : ∀ v u s2 x y H2, Inv X pins σ H2 s2 → RelV x v → RelV y u → R x y H2 → wpAny (model X.prog X.w) X.A (f v u) Q X.xe s2) :
  wpAny (model X.prog X.w) X.A (eval a X.env) (fun v s₁ => wpAny (model X.prog X.w) X.A (eval b X.env) (fun u s₂ => wpAny (model X.prog X.w) X.A (f v u) Q X.xe s₂) X.xe s₁) X.xe s := by
 refine thn (ha pins s σ H _ I h) fun v s1 ⟨x, H1, I1, r1, q1⟩ => ?_
 refine thn (hb pins s1 σ H1 _ I1 q1) fun u s2 ⟨y, H2, I2, r2, q2⟩ => ?_
 exact hf v u s2 x y H2 I2 r1 r2 q2
theorem pe_op {op : Operator} {r : R2} (ho : OpR X (binaryOp op) r) (ha : PE X a ta) (hb : PE X b tb) : PE X (.BinOp a op b pos) (tOp r ta tb) := by
 intro pins s σ H Q I h
 exact wpAny_BinOp (binT ha hb I h fun v u s2 x y H2 I2 rx ry q => ho pins s2 σ H2 x y v u Q I2 rx ry q)
theorem pe_un {op : UnaryOp} {r : V → Hp → VK → Prop} (ho : UnR X (unaryOp op) r) (ha : PE X a ta) : PE X (.UnaryOp op a pos) (tUn r ta) := by
 intro pins s σ H Q I h
 exact UnaryOp_ (thn (ha pins s σ H _ I h) fun v s1 ⟨x, H1, I1, r1, q1⟩ => ho pins s1 σ H1 x v Q I1 r1 q1)
theorem opI {f : Value → Value → Sem Value} {C : Int → Int → Prop} {g : Int → Int → Int}
  (rule : ∀ (i j : Int) (t u : Tok) (s : Shared) (Q : Value → Shared → Prop) (E : Value → Shared → Prop), C i j → Q (.int (g i j) s.toks) { s with toks := s.toks + 1 } → wpAny (model X.prog X.w) X.A (f (.int i t) (.int j u)) Q E s) :
  OpR X f (rI C fun i j => .int (g i j)) := by
 intro pins s σ H x y v u Q I rx ry h
 obtain ⟨i, j, rfl, rfl, hc, q⟩ := h
 obtain ⟨t, rfl⟩ := rx
 obtain ⟨t', rfl⟩ := ry
 exact rule i j t t' s _ _ hc ⟨.int (g i j), H, I.tok _, ⟨_, rfl⟩, q⟩
theorem opI0 {f : Value → Value → Sem Value} {g : Int → Int → Int}
  (rule : ∀ (i j : Int) (t u : Tok) (s : Shared) (Q : Value → Shared → Prop) (E : Value → Shared → Prop), Q (.int (g i j) s.toks) { s with toks := s.toks + 1 } → wpAny (model X.prog X.w) X.A (f (.int i t) (.int j u)) Q E s) :
  OpR X f (rI0 fun i j => .int (g i j)) := by
 intro pins s σ H x y v u Q I rx ry h
 obtain ⟨i, j, rfl, rfl, q⟩ := h
 obtain ⟨t, rfl⟩ := rx
 obtain ⟨t', rfl⟩ := ry
 exact rule i j t t' s _ _ ⟨.int (g i j), H, I.tok _, ⟨_, rfl⟩, q⟩
theorem opB0 {f : Value → Value → Sem Value} {g : Int → Int → Bool}
  (rule : ∀ (i j : Int) (t u : Tok) (s : Shared) (Q : Value → Shared → Prop) (E : Value → Shared → Prop), Q (.bool (g i j)) s → wpAny (model X.prog X.w) X.A (f (.int i t) (.int j u)) Q E s) :
  OpR X f (rI0 fun i j => .bl (g i j)) := by
 intro pins s σ H x y v u Q I rx ry h
 obtain ⟨i, j, rfl, rfl, q⟩ := h
 obtain ⟨t, rfl⟩ := rx
 obtain ⟨t', rfl⟩ := ry
 exact rule i j t t' s _ _ ⟨.bl (g i j), H, I, rfl, q⟩
def CDiv (i j : Int) : Prop := 0 < j ∧ j < 1073741824
def CPow (i j : Int) : Prop := 0 ≤ j ∧ j ≤ 1000000 ∧ i.natAbs < 2 ^ 64
def CMul (i j : Int) : Prop := (-(2 ^ 64) < i ∧ i < 2 ^ 64) ∨ (-(2 ^ 64) < j ∧ j < 2 ^ 64)
theorem CMul.ok {i j : Int} (h : CMul i j) : IntMulOk i j := by
 rcases h with ⟨h1, h2⟩ | ⟨h1, h2⟩
 ·exact .of_left (intBits_le_64 h1 h2)
 ·exact .of_right (intBits_le_64 h1 h2)
theorem op_add : OpR X (binaryOp .Add) (rI0 fun i j => .int (i + j)) := opI0 fun _ _ _ _ _ _ _ q => add_int q
theorem op_sub : OpR X (binaryOp .Sub) (rI0 fun i j => .int (i - j)) := opI0 fun _ _ _ _ _ _ _ q => sub_int q
theorem op_mul : OpR X (binaryOp .Mult) (rI CMul fun i j => .int (i * j)) := opI fun _ _ _ _ _ _ _ hc q => mul_int q hc.ok
theorem op_fdiv : OpR X (binaryOp .FloorDiv) (rI CDiv fun i j => .int (i / j)) := opI fun i j _ _ _ _ _ hc q => by
 have h1 : (0 : Int) < j := hc.1
 have h2 : j < 1073741824 := hc.2
 exact floordiv_int (by omega) (by rw [Int.fdiv_eq_ediv_of_nonneg i (by omega)]; exact q) (.inl (PyProof.noPylong_small (by omega)))
theorem op_mod : OpR X (binaryOp .Mod) (rI (fun _ j => 0 < j) fun i j => .int (i % j)) := opI fun i j _ _ _ _ _ hc q => by
 have h1 : (0 : Int) < j := hc
 exact mod_int' (by omega) (by rw [Int.fmod_eq_emod_of_nonneg i (by omega)]; exact q)
theorem op_pow : OpR X (binaryOp .Pow) (rI CPow fun i j => .int (i ^ j.toNat)) := opI fun _ _ _ _ _ _ _ hc q => pow_int_small hc.1 hc.2.1 hc.2.2 q
theorem unI {f : Value → Sem Value} {g : Int → Int}
  (rule : ∀ (i : Int) (t : Tok) (s : Shared) (Q : Value → Shared → Prop) (E : Value → Shared → Prop), Q (.int (g i) s.toks) { s with toks := s.toks + 1 } → wpAny (model X.prog X.w) X.A (f (.int i t)) Q E s) :
  UnR X f (rU fun i => .int (g i)) := by
 intro pins s σ H x v Q I rx h
 obtain ⟨i, rfl, q⟩ := h
 obtain ⟨t, rfl⟩ := rx
 exact rule i t s _ _ ⟨.int (g i), H, I.tok _, ⟨_, rfl⟩, q⟩
theorem un_neg : UnR X (unaryOp .USub) (rU fun i => .int (-i)) := unI fun _ _ _ _ _ q => neg_int q
end
def scal : V → V → Bool
 | .non, .non => true | .non, .int _ => true | .int _, .non => true | .non, .bl _ => true | .bl _, .non => true | .non, .str _ => true | .str _, .non => true
 | .int _, .int _ => true | .bl _, .bl _ => true | .str _, .str _ => true | .byt _, .byt _ => true
 | .int _, .str _ => true | .str _, .int _ => true | .bl _, .str _ => true | .str _, .bl _ => true
 | _, _ => false
def rEq : R2 := fun x y H Q => scal x y = true ∧ Q (.bl (decide (x = y))) H
def rNe : R2 := fun x y H Q => scal x y = true ∧ Q (.bl (!decide (x = y))) H
theorem dec_int {i j : Int} : decide (V.int i = V.int j) = (i == j) := by
 rw [Bool.eq_iff_iff]
 simp
theorem dec_bl {i j : Bool} : decide (V.bl i = V.bl j) = (i == j) := by
 rw [Bool.eq_iff_iff]
 simp
theorem dec_str {i j : Str} : decide (V.str i = V.str j) = (i == j) := by
 rw [Bool.eq_iff_iff]
 simp
theorem dec_byt {i j : Array UInt8} : decide (V.byt i = V.byt j) = (i.toList == j.toList) := by
 rw [Bool.eq_iff_iff]
 cases i
 cases j
 simp
section
variable {X : Cx} {a b c : Expr} {ta tb tc : TE} {pos : Pos}
theorem fin_bl {pins : List (Addr × Obj)} {σ : St} {H : Hp} {s : Shared} {Q : VK} {k k' : Bool} (I : Inv X pins σ H s) (q : Q (.bl k) H) (e : k = k') : EP X pins σ Q (.bool k') s := by
 subst e
 exact ⟨.bl k, H, I, rfl, q⟩
theorem op_eq : OpR X (compareOp .Eq) rEq := by
 intro pins s σ H x y v u Q I rx ry h
 obtain ⟨hs, q⟩ := h
 cases x with
 | non =>
  cases rx
  cases y with
  | non => cases ry; exact PySem.EqNone.eq_none_none (fin_bl I q (by simp))
  | bl j => cases ry; exact PySem.EqNone.eq_none_bool (fin_bl I q (by simp))
  | int j => obtain ⟨t', rfl⟩ := ry; exact PySem.EqNone.eq_none_int (fin_bl I q (by simp))
  | str j => obtain ⟨t', rfl⟩ := ry; exact PySem.EqNone.eq_none_str (fin_bl I q (by simp))
  | _ => exact absurd (show false = true from hs) Bool.false_ne_true
 | bl i =>
  cases rx
  cases y with
  | non => cases ry; exact PySem.EqNone.eq_bool_none (fin_bl I q (by simp))
  | bl j => cases ry; exact eq_bool (fin_bl I q dec_bl)
  | str j => obtain ⟨t', rfl⟩ := ry; exact PySem.EqMixed.eq_bool_str (fin_bl I q (by simp))
  | _ => exact absurd (show false = true from hs) Bool.false_ne_true
 | int i =>
  obtain ⟨t, rfl⟩ := rx
  cases y with
  | non => cases ry; exact PySem.EqNone.eq_int_none (fin_bl I q (by simp))
  | int j => obtain ⟨t', rfl⟩ := ry; exact eq_int (fin_bl I q dec_int)
  | str j => obtain ⟨t', rfl⟩ := ry; exact PySem.EqMixed.eq_int_str (fin_bl I q (by simp))
  | _ => exact absurd (show false = true from hs) Bool.false_ne_true
 | str i =>
  obtain ⟨t, rfl⟩ := rx
  cases y with
  | non => cases ry; exact PySem.EqNone.eq_str_none (fin_bl I q (by simp))
  | bl j => cases ry; exact PySem.EqMixed.eq_str_bool (fin_bl I q (by simp))
  | int j => obtain ⟨t', rfl⟩ := ry; exact PySem.EqMixed.eq_str_int (fin_bl I q (by simp))
  | str j => obtain ⟨t', rfl⟩ := ry; exact eq_str (fin_bl I q dec_str)
  | _ => exact absurd (show false = true from hs) Bool.false_ne_true
 | byt i =>
  obtain ⟨t, rfl⟩ := rx
  cases y with
  | byt j => obtain ⟨t', rfl⟩ := ry; exact PySem.W.eq_bytes (fin_bl I q dec_byt)
  | _ => exact absurd (show false = true from hs) Bool.false_ne_true
 | _ => cases y <;> exact absurd (show false = true from hs) Bool.false_ne_true
theorem op_ne : OpR X (compareOp .NotEq) rNe := by
 intro pins s σ H x y v u Q I rx ry h
 obtain ⟨hs, q⟩ := h
 cases x with
 | non =>
  cases rx
  cases y with
  | non => cases ry; exact PySem.EqNone.ne_none_none (fin_bl I q (by simp))
  | bl j => cases ry; exact PySem.EqNone.ne_none_bool (fin_bl I q (by simp))
  | int j => obtain ⟨t', rfl⟩ := ry; exact PySem.EqNone.ne_none_int (fin_bl I q (by simp))
  | str j => obtain ⟨t', rfl⟩ := ry; exact PySem.EqNone.ne_none_str (fin_bl I q (by simp))
  | _ => exact absurd (show false = true from hs) Bool.false_ne_true
 | bl i =>
  cases rx
  cases y with
  | non => cases ry; exact PySem.EqNone.ne_bool_none (fin_bl I q (by simp))
  | bl j => cases ry; exact ne_bool (fin_bl I q (congrArg not dec_bl))
  | str j => obtain ⟨t', rfl⟩ := ry; exact PySem.EqMixed.ne_bool_str (fin_bl I q (by simp))
  | _ => exact absurd (show false = true from hs) Bool.false_ne_true
 | int i =>
  obtain ⟨t, rfl⟩ := rx
  cases y with
  | non => cases ry; exact PySem.EqNone.ne_int_none (fin_bl I q (by simp))
  | int j => obtain ⟨t', rfl⟩ := ry; exact ne_int (fin_bl I q (congrArg not dec_int))
  | str j => obtain ⟨t', rfl⟩ := ry; exact PySem.EqMixed.ne_int_str (fin_bl I q (by simp))
  | _ => exact absurd (show false = true from hs) Bool.false_ne_true
 | str i =>
  obtain ⟨t, rfl⟩ := rx
  cases y with
  | non => cases ry; exact PySem.EqNone.ne_str_none (fin_bl I q (by simp))
  | bl j => cases ry; exact PySem.EqMixed.ne_str_bool (fin_bl I q (by simp))
  | int j => obtain ⟨t', rfl⟩ := ry; exact PySem.EqMixed.ne_str_int (fin_bl I q (by simp))
  | str j => obtain ⟨t', rfl⟩ := ry; exact ne_str (fin_bl I q (congrArg not dec_str))
  | _ => exact absurd (show false = true from hs) Bool.false_ne_true
 | byt i =>
  obtain ⟨t, rfl⟩ := rx
  cases y with
  | byt j => obtain ⟨t', rfl⟩ := ry; exact PySem.W.ne_bytes (fin_bl I q (congrArg not dec_byt))
  | _ => exact absurd (show false = true from hs) Bool.false_ne_true
 | _ => cases y <;> exact absurd (show false = true from hs) Bool.false_ne_true
theorem op_lt : OpR X (compareOp .Lt) (rI0 fun i j => .bl (decide (i < j))) := opB0 fun _ _ _ _ _ _ _ q => lt_int q
theorem op_le : OpR X (compareOp .LtE) (rI0 fun i j => .bl (decide (i ≤ j))) := opB0 fun _ _ _ _ _ _ _ q => le_int q
theorem op_gt : OpR X (compareOp .Gt) (rI0 fun i j => .bl (decide (j < i))) := opB0 fun _ _ _ _ _ _ _ q => gt_int q
theorem op_ge : OpR X (compareOp .GtE) (rI0 fun i j => .bl (decide (j ≤ i))) := opB0 fun _ _ _ _ _ _ _ q => ge_int q
theorem op_isN : OpR X (compareOp .Is) (fun x y H Q => y = .non ∧ Q (.bl (decide (x = .non))) H) := by
  intro pins s σ H x y v u Q I rx ry h
  obtain ⟨rfl, q⟩ := h
  cases ry
  refine is_none_gen (fin_bl I q ?_)
  cases x <;> first
    | (cases rx; rfl)
    | (obtain ⟨t, rfl⟩ := rx; rfl)
theorem nomark (b : Expr) {op : CmpOp} (h : op ≠ .In := by decide) (h2 : op ≠ .NotIn := by decide) : behindInMarks op b = false := by
 have e1 : (op == CmpOp.In) = false := by cases op <;> first | rfl | exact absurd rfl h
 have e2 : (op == CmpOp.NotIn) = false := by cases op <;> first | rfl | exact absurd rfl h2
 cases b <;> simp [behindInMarks, e1, e2]
theorem pe_cmpR {op : CmpOp} {r : R2} (ho : OpR X (compareOp op) r) (ha : PE X a ta) (hb : PE X b tb) (hm : behindInMarks op b = false) : PE X (.Compare a [op] [b] pos) (tOp r ta tb) := by
 intro pins s σ H Q I h
 exact wpAny_Compare1 (binT ha hb I h fun v u s2 x y H2 I2 rx ry q => ho pins s2 σ H2 x y v u Q I2 rx ry q) hm
theorem line63 : (sizeLine : Nat) < 2 ^ 63 := by rw [sizeLine_eq]; decide
theorem op_add_str : OpR X (binaryOp .Add) (fun x y H Q => ∃ i j, x = .str i ∧ y = .str j ∧ i.length + j.length ≤ sizeLine ∧ Q (.str (i ++ j)) H) := by
 intro pins s σ H x y v u Q I rx ry h
 obtain ⟨i, j, rfl, rfl, hz, q⟩ := h
 obtain ⟨t, rfl⟩ := rx
 obtain ⟨t', rfl⟩ := ry
 exact add_str (fun t' tk => ⟨.str (i ++ j), H, I.tok _, ⟨_, rfl⟩, q⟩) hz
theorem vals1 {x : V} {us : List Value} (r : Vals [x] us) : ∃ u, us = [u] ∧ RelV x u := by
 cases r with
 | cons r1 r2 => cases r2; exact ⟨_, rfl, r1⟩
theorem vals2 {x y : V} {us : List Value} (r : Vals [x, y] us) : ∃ u w', us = [u, w'] ∧ RelV x u ∧ RelV y w' := by
 cases r with
 | cons r1 r2 =>
  cases r2 with
  | cons r3 r4 => cases r4; exact ⟨_, _, rfl, r1, r3⟩
theorem call_max2 (hc : X.calm = true) : CallR X (.builtin "max") (fun xs H Q => ∃ i j, xs = [.int i, .int j] ∧ Q (.int (if j > i then j else i)) H) := by
 intro pins s σ H xs us Q I r h
 obtain ⟨i, j, rfl, q⟩ := h
 obtain ⟨u, w', rfl, ⟨t, rfl⟩, ⟨t', rfl⟩⟩ := vals2 r
 refine max_two_ints (I.ok.hd hc) fun h' tk k => ⟨_, H, I.kept k, ?_, q⟩
 by_cases hj : j > i
 ·rw [if_pos hj, if_pos hj]; exact ⟨_, rfl⟩
 ·rw [if_neg hj, if_neg hj]; exact ⟨_, rfl⟩
theorem call_min2 (hc : X.calm = true) : CallR X (.builtin "min") (fun xs H Q => ∃ i j, xs = [.int i, .int j] ∧ Q (.int (if j < i then j else i)) H) := by
 intro pins s σ H xs us Q I r h
 obtain ⟨i, j, rfl, q⟩ := h
 obtain ⟨u, w', rfl, ⟨t, rfl⟩, ⟨t', rfl⟩⟩ := vals2 r
 refine min_two_ints (I.ok.hd hc) fun h' tk k => ⟨_, H, I.kept k, ?_, q⟩
 by_cases hj : j < i
 ·rw [if_pos hj, if_pos hj]; exact ⟨_, rfl⟩
 ·rw [if_neg hj, if_neg hj]; exact ⟨_, rfl⟩
theorem call_int1 : CallR X (.type "int") (fun xs H Q => (∃ i, xs = [.int i] ∧ Q (.int i) H) ∨ ∃ k, xs = [.bl k] ∧ Q (.int (if k then 1 else 0)) H) := by
 intro pins s σ H xs us Q I r h
 rcases h with ⟨i, rfl, q⟩ | ⟨k, rfl, q⟩
 ·obtain ⟨u, rfl, t, rfl⟩ := vals1 r
  exact call_int_int ⟨.int i, H, I, ⟨_, rfl⟩, q⟩
 ·obtain ⟨u, rfl, r1⟩ := vals1 r
  cases r1
  exact call_int_bool ⟨.int (if k then 1 else 0), H, I.tok _, ⟨_, rfl⟩, q⟩
theorem call_str_int : CallR X (.type "str") (fun xs H Q => ∃ i, xs = [.int i] ∧ i.natAbs.log2 < 1920 ∧ Q (.str (toString i)) H) := by
 intro pins s σ H xs us Q I r h
 obtain ⟨i, rfl, hz, q⟩ := h
 obtain ⟨u, rfl, t, rfl⟩ := vals1 r
 exact PySem.P.str_of_int hz ⟨.str _, H, I.tok _, ⟨_, rfl⟩, q⟩
theorem call_divmod : CallR X (.builtin "divmod") (fun xs H Q => ∃ i j, xs = [.int i, .int j] ∧ CDiv i j ∧ ∀ p, H p = none → Q (.ref p) (upd H p (.tup [.int (i / j), .int (i % j)]))) := by
 intro pins s σ H xs us Q I r h
 obtain ⟨i, j, rfl, ⟨h1, h2⟩, q⟩ := h
 obtain ⟨u, w', rfl, ⟨t, rfl⟩, ⟨t', rfl⟩⟩ := vals2 r
 refine divmod_int (by omega) ?_ (.inl (PyProof.noPylong_small (by omega)))
 rw [Int.fdiv_eq_ediv_of_nonneg i (by omega), Int.fmod_eq_emod_of_nonneg i (by omega)]
 have hn : H s.heap.objs.size = none := I.hok.fresh (Nat.le_refl _)
 refine ⟨.ref s.heap.objs.size, _, ?_, rfl, q _ hn⟩
 refine I.laid (fun b o e => Heap.get?_push_of_some _ e) (Nat.le_refl _) ⟨by simp only [List.length_cons, List.length_nil]; rw [sizeLine_eq]; decide, [.int (i / j) s.toks, .int (i % j) (s.toks + 1)], .cons ⟨_, rfl⟩ (.cons ⟨_, rfl⟩ .nil), ?_⟩
 exact ⟨_, Heap.get?_push_size s.heap rfl, rfl, 0, rfl⟩
end
end L2
namespace L2
open PySem PySem.Spec PyProof.Rows
structure ObjM (h : Heap) (x dx C : Addr) (mA : Str → Option Value) : Prop where
 obj : h.get? x = some (PySem.W.instObj C dx)
 ns : h.Ns1 dx mA
 ne : dx ≠ x
theorem lookIn_ns {h : Heap} {dx : Addr} {mA : Str → Option Value} (n : h.Ns1 dx mA) : ∃ od, h.get? dx = some od ∧ ∀ name, PySem.W.lookIn name od = some (mA name) := by
 obtain ⟨o, es, ep, ho, hd, hk, _, hm⟩ := n
 refine ⟨o, ho, fun name => ?_⟩
 have e := hm name
 unfold nsFind findBy at e
 rw [← Array.find?_toList] at e
 unfold PySem.W.lookIn
 rw [hd]
 dsimp only
 split
 ·rename_i y q
  rw [q] at e
  exact congrArg some e
 ·rename_i q
  rw [q] at e
  have a : es.toList.any (·.refKey) = false := by
   rw [List.any_eq_false]
   intro y hy
   obtain ⟨z, t, hkey⟩ := hk y (Array.mem_toList_iff.mp hy)
   simp [DictEntry.refKey, hkey]
  have a' : ¬ es.toList.any (·.refKey) = true := by rw [a]; exact Bool.false_ne_true
  rw [if_neg a']
  exact congrArg some e
section
variable {prog : Program} {w : World} {A : Around} {E : Value → Shared → Prop} {s : Shared} {K : PySem.W.Frag} {x dx C f : Addr} {mA : Str → Option Value} {name : Str} {v : Value}
end
theorem RelO.some_of {v : V} {o : Option Value} (r : RelO (some v) o) : ∃ u, o = some u ∧ RelV v u := by
 cases o with
 | none => exact (show False from r).elim
 | some u => exact ⟨u, rfl, r⟩
theorem handed_of {v : V} {u : Value} (r : RelV v u) : PySem.W.handedIn u = true := by
 cases v with
 | non => cases (show u = Value.none from r); rfl
 | bl b => cases (show u = Value.bool b from r); rfl
 | int i => obtain ⟨t, e⟩ := (show ∃ t, u = Value.int i t from r); cases e; rfl
 | str x => obtain ⟨t, e⟩ := (show ∃ t, u = Value.str x t from r); cases e; rfl
 | byt b => obtain ⟨t, e⟩ := (show ∃ t, u = Value.bytes b t from r); cases e; rfl
 | flt b => obtain ⟨t, e⟩ := (show ∃ t, u = Value.float b t from r); cases e; rfl
 | ref a => cases (show u = Value.ref a from r); rfl
 | ty n => cases (show u = Value.type n from r); rfl
section
variable {P : Program} {w : World} {H H' : Hp} {h h' : Heap} {a C dx : Addr} {fs fs' : List (Str × V)}
end
structure Cls (K : PySem.W.Frag) (C : Addr) : Prop where
 pg : PySem.W.plainGet K C Str.empty = true
 hd : PySem.W.hasDictIn K C = true
 po : PySem.W.plainOver K C = true
 sa : PySem.W.findIn K (.ref C) "__setattr__" = some (some (.builtin "object.__setattr__"))
structure Con (K : PySem.W.Frag) (C : Addr) (f : Str) (v : V) (u : Value) : Prop where
 at_ : PySem.W.findIn K (.ref C) f = some (some u)
 rel : RelV v u
 get : PySem.W.specialIn K u "__get__" = some none
 cp : PySem.W.copiedNames.contains f = false
structure Meth (K : PySem.W.Frag) (C : Addr) (m : Str) (f : Addr) : Prop where
 at_ : PySem.W.findIn K (.ref C) m = some (some (.ref f))
 fn : PySem.W.isFn K (.ref f) = true
 kp : PySem.W.keepIn K (.ref f) = true
section
variable {X : Cx} {pins : List (Addr × Obj)} {σ : St} {H : Hp} {s : Shared} {a C dx : Addr} {fs : List (Str × V)} {f : Str} {v : V} {A : Around} {E : Value → Shared → Prop}
theorem attr_of {prog : Program} {w : World} {env : Env} {e : Expr} {f : Str} {pos : Pos} {s : Shared} {Q : Value → Shared → Prop} (hb : attributeBase e f env (eval e env) = eval e env)
  (h : wpAny (model prog w) A (eval e env) (fun o s₁ => wpAny (model prog w) A (getAttr o f true) Q E s₁) E s) : wpAny (model prog w) A (eval (.Attribute e f pos) env) Q E s :=
 Attribute_any_ h (by rw [arm_eval_Attribute, hb])
end
section
variable {X : Cx} {o e value : Expr} {f : Str} {pos pos' tpos : Pos} {ta tv : TE}
end
section
variable {X : Cx} {pins : List (Addr × Obj)} {σ : St} {H : Hp} {s : Shared} {A : Around} {E : Value → Shared → Prop} {Q : Value → Shared → Prop} {c : Value} {b : Bool}
inductive TyOf (K : PySem.W.Frag) (H : Hp) : V → Value → Prop where
 | non : TyOf K H .non (.type "NoneType")
 | bl (x : Bool) : TyOf K H (.bl x) (.type "bool")
 | int (i : Int) : TyOf K H (.int i) (.type "int")
 | str (x : Str) : TyOf K H (.str x) (.type "str")
 | flt (x : UInt64) : TyOf K H (.flt x) (.type "float")
 | lst {a : Addr} {xs : List V} (e : H a = some (.lst xs)) : TyOf K H (.ref a) (.type "list")
 | frz {a : Addr} {o : Obj} {xs : List V} (e : H a = some (.frz o (.lst xs))) : TyOf K H (.ref a) (.type "list")
 | tup {a : Addr} {xs : List V} (e : H a = some (.tup xs)) : TyOf K H (.ref a) (.type "tuple")
 | dK {a : Addr} {kvs : List (Key × V)} (e : H a = some (.dK kvs)) : TyOf K H (.ref a) (.type "dict")
 | dT {a : Addr} {kvs : List (List Key × V)} (e : H a = some (.dT kvs)) : TyOf K H (.ref a) (.type "dict")
 | ins {a C dx : Addr} {fs : List (Str × V)} (e : H a = some (.ins C dx fs)) (cl : Cls K C) (ha : PySem.W.findIn K (.ref C) "__class__" = some (some (.builtin "object.__class__")))
   (hn : PySem.W.specialIn K (.builtin "object.__class__") "__get__" = some (some (.builtin "getset_descriptor.__get__"))) (htk : PySem.W.takesIn K (.builtin "object.__class__") = some true)
   (hm : PySem.W.mroIn K C (.type "object") = some true) : TyOf K H (.ref a) (.ref C)
end
end L2
namespace L2
open PySem PySem.Spec PyProof.Rows
structure Room (k : Nat) (A : Around) : Prop where
 hd : A.handled = none
 dp : A.depth + 3 * k + 5 < recursionLimit
 un : A.units + 16 * k + 200 < cLine
 gd : A.guards = some []
theorem Room.mono {j k : Nat} {A : Around} (r : Room k A) (h : j ≤ k) : Room j A := ⟨r.hd, by have := r.dp; omega, by have := r.un; omega, r.gd⟩
theorem Room.deeper {k : Nat} {A : Around} (r : Room (k + 1) A) (env : Env) : Room k (A.deeper env) :=
 ⟨r.hd, by have := r.dp; show A.depth + 1 + 3 * k + 5 < _; omega, by have := r.un; show A.units + 3 + 16 * k + 200 < _; omega, r.gd⟩
theorem make_depth {A : Around} {C : Addr} {us : List Value} {kw : List (Str × Value)} : (A.under (.builtin "type.__call__" ⟨.ref C :: us, kw⟩)).depth = A.depth + 1 := by
 first | rfl | simp [Around.under, Code.weight, Code.isCreation, Code.isGuard, Code.isCaller, Code.frames, Code.isFrame, guardIds]
theorem make_units {A : Around} {C : Addr} {us : List Value} {kw : List (Str × Value)} : (A.under (.builtin "type.__call__" ⟨.ref C :: us, kw⟩)).units = A.units + 1 := by
 first | rfl | simp [Around.under, Code.cUnits, Code.frames, Code.isFrame]
theorem Room.make {k : Nat} {A : Around} (r : Room (k + 1) A) (C : Addr) (us : List Value) (kw : List (Str × Value)) : Room k (A.under (.builtin "type.__call__" ⟨.ref C :: us, kw⟩)) :=
 ⟨r.hd, by have := r.dp; rw [make_depth]; omega, by have := r.un; rw [make_units]; omega, by first | exact r.gd | simpa [Around.under, Code.isGuard, guardIds] using r.gd⟩
theorem Room.depth {k : Nat} {A : Around} (r : Room k A) : A.depth < recursionLimit := by have := r.dp; omega
theorem Room.units0 {k : Nat} {A : Around} (r : Room k A) : A.units < cLine := by have := r.un; omega
def tNil : TA := fun _ H Q => Q [] H
def tCons (ta : TE) (tr : TA) : TA := fun σ H Q => ta σ H fun x H1 => tr σ H1 fun xs H2 => Q (x :: xs) H2
section
variable {X : Cx} {e : Expr} {es : List Expr} {te : TE} {t : TA} {pos : Pos}
theorem pa_nil : PA X [] tNil := fun _ _ _ _ H Q I h => Calls.spliced_nil ⟨[], H, I, .nil, h⟩
theorem pa_cons (ha : PE X e te) (hr : PA X es t) (hs : starEach (e :: es) X.env = (false, eval e X.env) :: starEach es X.env := by rfl) : PA X (e :: es) (tCons te t) := by
 intro pos pins s σ H Q I h
 rw [hs]
 show wpAny _ _ (spliced ((false, eval e X.env) :: backTo pos (starEach es X.env))) _ _ s
 refine Calls.spliced_cons (thn (ha pins s σ H _ I h) fun u s1 ⟨x, H1, I1, r1, q1⟩ => ?_)
 exact thn (hr pos pins s1 σ H1 _ I1 q1) fun us s2 ⟨xs, H2, I2, r2, q2⟩ => ⟨x :: xs, H2, I2, .cons r1 r2, q2⟩
end
abbrev Sp := List V → Hp → VK → XK → Prop
abbrev CXT := List Env → Hp → Shared → XK → Value → Shared → Prop
structure Env0 (P : Program) (w : World) (K : PySem.W.Frag) (mg : Str → Option Value) (base : Heap) (A : Around) (outer : List Env) (s : Shared) (H : Hp) : Prop where
 frames : A.frames = some outer
 mod : Mod K mg base
 bs : ∀ b o, base.get? b = some o → s.heap.get? b = some o ∧ H b = none
 bsz : base.objs.size ≤ s.heap.objs.size
 funs : s.heap.FunFrames base outer
 frf : ∀ b ∈ frs outer, H b = none
 hok : HOk P w H s.heap
 bare : AllBare s.gens
def CE (outer : List Env) (P : Program) (w : World) (H : Hp) (s : Shared) (Q : VK) (u : Value) (s' : Shared) : Prop :=
 ∃ v H', s'.os = s.os ∧ AllBare s'.gens ∧ Un (frs outer) [] H H' s.heap s'.heap ∧ HOk P w H' s'.heap ∧ RelV v u ∧ Q v H'
def CR (CX : CXT) (outer : List Env) (P : Program) (w : World) (H : Hp) (s : Shared) (Q : VK) (E : XK) (r : Result) (s' : Shared) : Prop :=
 match r with
 | .ok (.ret u) => CE outer P w H s Q u s'
 | .ok _ => False
 | .error e => CX outer H s E e s'
structure FnOk (P : Program) (w : World) (K : PySem.W.Frag) (mg : Str → Option Value) (base : Heap) (CX : CXT) (k : Nat) (f : Addr) (fd : FuncData) (ps : List Str) (sp : Sp) : Prop where
 len : ∀ vs H Q E, sp vs H Q E → vs.length = ps.length
 run : ∀ (A : Around) (outer : List Env) (s : Shared) (H : Hp) (args : Args) (us : List Value) (vs : List V) (Q : VK) (E : XK), Room k A → Env0 P w K mg base A outer s H → BindsTo s fd args (ps.zip us) → Vals vs us → sp vs H Q E →
  codeAny (model P w) A (.call (.ref f) args) (CR CX outer P w H s Q E) s
theorem Env0.make {P : Program} {w : World} {K : PySem.W.Frag} {mg : Str → Option Value} {base : Heap} {A : Around} {outer : List Env} {s : Shared} {H : Hp} (e : Env0 P w K mg base A outer s H) (C : Addr) (us : List Value) (kw : List (Str × Value)) :
  Env0 P w K mg base (A.under (.builtin "type.__call__" ⟨.ref C :: us, kw⟩)) outer s H := ⟨by first | exact e.frames | (simpa [Around.under, Code.envs, Code.isFrame, pushEnvs] using e.frames), e.mod, e.bs, e.bsz, e.funs, e.frf, e.hok, e.bare⟩
section
variable {X : Cx} {pins : List (Addr × Obj)} {σ : St} {H : Hp} {s s' : Shared}
theorem Inv.env0 (I : Inv X pins σ H s) : Env0 X.prog X.w X.K X.mg X.base X.A X.stack s H :=
 ⟨I.ok.frames, I.ok.mod, I.bs, Nat.le_trans I.ok.bsz I.sz, I.stack, I.stkFree, I.hok, I.bare⟩
theorem Inv.after {Q : VK} {u : Value} (I : Inv X pins σ H s) (h : CE X.stack X.prog X.w H s Q u s') : EP X pins σ Q u s' := by
 obtain ⟨v, H', os, bare, un, hok, r, q⟩ := h
 obtain ⟨hh, g, d, t, os'⟩ := s'
 obtain rfl : os' = s.os := os
 exact ⟨v, H', I.call (h' := hh) (g' := g) (d' := d) (t' := t) (ch := []) un hok bare (fun b z => absurd z (by simp)), r, q⟩
end
def tCall (sp : Sp) (dvs : List V) (E : XK) (t : TA) : TE := fun σ H Q => t σ H fun vs H1 => sp (vs ++ dvs) H1 Q E
def Binds (K : PySem.W.Frag) (fd : FuncData) (ps : List Str) (ds : List Value) : Prop :=
 ∀ (s : Shared) (us : List Value), K.In s.heap → (us ++ ds).length = ps.length → BindsTo s fd ⟨us, []⟩ (ps.zip (us ++ ds))
theorem Binds.all {K : PySem.W.Frag} {fd : FuncData} {ps : List Str} (h : ∀ us : List Value, us.length = ps.length → bindArgs fd ⟨us, []⟩ = pure (ps.zip us)) : Binds K fd ps [] := fun s us _ hl => by
 rw [List.append_nil] at hl ⊢
 exact .of_eq (h us hl)
def Passes (CX : CXT) (X : Cx) (E : XK) : Prop := ∀ (pins : List (Addr × Obj)) (σ : St) (H : Hp) (s : Shared) (e : Value) (s' : Shared), Inv X pins σ H s → CX X.stack H s E e s' → X.xe e s'
section
variable {X : Cx} {CX : CXT} {k : Nat} {f C : Addr} {fd : FuncData} {ps : List Str} {sp : Sp} {dvs : List V} {ds : List Value} {E : XK} {x m : Str} {p pos apos : Pos} {e o : Expr} {es : List Expr} {ta : TE} {t : TA}
theorem run_fn {pins : List (Addr × Obj)} {σ : St} {H : Hp} {s : Shared} {Q : VK} {us : List Value} {vs : List V} (F : FnOk X.prog X.w X.K X.mg X.base CX k f fd ps sp) (hr : Room k X.A) (hb : Binds X.K fd ps ds) (hd : Vals dvs ds) (hx : Passes CX X E)
  (I : Inv X pins σ H s) (r : Vals vs us) (h : sp (vs ++ dvs) H Q E) : wpAny (model X.prog X.w) X.A (call (.ref f) us) (EP X pins σ Q) X.xe s := by
 have r2 : Vals (vs ++ dvs) (us ++ ds) := r.append hd
 have hl : (us ++ ds).length = ps.length := by rw [← r2.length]; exact F.len _ _ _ _ h
 refine wpAny_call (codeAny_mono (F.run X.A X.stack s H ⟨us, []⟩ (us ++ ds) (vs ++ dvs) Q E hr I.env0 (hb s us I.kIn hl) r2 h) fun r s' hq => ?_)
 cases r with
 | error e => exact hx pins σ H s e s' I hq
 | ok fl =>
  cases fl with
  | ret u => exact I.after hq
  | next => exact False.elim hq
  | brk => exact False.elim hq
  | cont => exact False.elim hq
theorem pe_call (F : FnOk X.prog X.w X.K X.mg X.base CX k f fd ps sp) (hr : Room k X.A) (hg : Gl X x) (hm : X.mg x = some (.ref f)) (hk : PySem.W.keepIn X.K (.ref f) = true) (hb : Binds X.K fd ps ds) (hd : Vals dvs ds) (hx : Passes CX X E)
  (ha : PA X (e :: es) t) (hdb : (x == ("__debug__" : Str)) = false := by decide) (he : starEach (e :: es) X.env = (false, eval e X.env) :: starEach es X.env := by rfl) (hpl : (backTo pos (starEach es X.env)).any (·.1) = false := by rfl) :
  PE X (.Call (.Name x p) (e :: es) [] pos) (tCall sp dvs E t) := by
 intro pins s σ H Q I h
 refine wpAny_Call_Name_kw (ld_glob I hg hm ?_ hdb)
 refine PySem.W.callWith_K (h₀ := X.base) I.ok.mod.kin hk (thn (ha pos pins s σ H _ I h) fun us s1 ⟨vs, H1, I1, r, q⟩ => ⟨I1.kIn, ?_⟩) he hpl
 exact run_fn F hr hb hd hx I1 r q
structure Mk (K : PySem.W.Frag) (C f : Addr) : Prop where
 makes : PySem.W.makesIn K C = true
 init : PySem.W.findIn K (.ref C) "__init__" = some (some (.ref f))
 fn : PySem.W.isFn K (.ref f) = true
 kp : PySem.W.keepIn K (.ref C) = true
end
section
variable {X : Cx} {CX : CXT} {k : Nat} {f C : Addr} {fd : FuncData} {ps ks : List Str} {sp : Sp} {E : XK} {x m : Str} {p pos apos kpos : Pos} {e o : Expr} {es : List Expr} {kws : List Keyword} {te ta : TE} {t tk : TA} {nm : Option Str}
structure KBinds (K : PySem.W.Frag) (fd : FuncData) (ps ks : List Str) (g : List Value → List Value → List Value) (gV : List V → List V → List V) : Prop where
 to : ∀ (s : Shared) (us ws : List Value), K.In s.heap → (g us ws).length = ps.length → BindsTo s fd ⟨us, ks.zip ws⟩ (ps.zip (g us ws))
 rel : ∀ {vs : List V} {us : List Value} {zs : List V} {ws : List Value}, Vals vs us → Vals zs ws → Vals (gV vs zs) (g us ws)
variable {g : List Value → List Value → List Value} {gV : List V → List V → List V}
end
structure FnScope (N P : List Str) (sc : Scope) : Prop where
 kind : sc.kind = .function
 co : sc.isCoroutine = false
 gen : sc.isGenerator = false
 nd : N.Nodup
 pre : N.take P.length = P
 par : ∀ x ∈ P, sc.names.lookup x = some .local ∨ sc.names.lookup x = some .cell
 nofree : ∀ y ∈ sc.names, y.2 ≠ .free
theorem bindL_out {kindOf : Str → Option NameKind} {x : Str} : ∀ {binds : List (Str × Value)} {m : Str → Option Value}, (∀ v, (x, v) ∉ binds) → bindL kindOf binds m x = m x
  | [], _, _ => rfl
  | (n, v) :: r, m, h => by
    unfold bindL
    rw [bindL_out fun w hw => h w (List.mem_cons_of_mem _ hw)]
    split
    · have : x ≠ n := by rintro rfl; exact h v List.mem_cons_self
      simp [this]
    · rfl
theorem bindC_out {kindOf : Str → Option NameKind} {x : Str} : ∀ {binds : List (Str × Value)} {m : Str → Option Value}, (∀ v, (x, v) ∉ binds) → bindC kindOf binds m x = m x
  | [], _, _ => rfl
  | (n, v) :: r, m, h => by
    unfold bindC
    rw [bindC_out fun w hw => h w (List.mem_cons_of_mem _ hw)]
    split
    · rfl
    · have : x ≠ n := by rintro rfl; exact h v List.mem_cons_self
      simp [this]
theorem bindL_get {kindOf : Str → Option NameKind} {x : Str} {v : Value} : ∀ {P : List Str} {vs : List Value} {i : Nat} {m : Str → Option Value}, P.Nodup → P[i]? = some x → vs[i]? = some v → kindOf x = some .local →
  bindL kindOf (P.zip vs) m x = some v
 | [], _, _, _, _, h, _, _ => by simp at h
 | _ :: _, [], _, _, _, _, h, _ => by simp at h
 | p :: P, w :: vs, 0, m, nd, h1, h2, hk => by
  simp at h1 h2; subst h1; subst h2
  show bindL kindOf ((p, w) :: P.zip vs) m p = _
  unfold bindL
  rw [bindL_out fun v hv => (List.nodup_cons.mp nd).1 (List.of_mem_zip hv).1, if_pos hk]
  simp
 | p :: P, w :: vs, i + 1, m, nd, h1, h2, hk => by
  show bindL kindOf ((p, w) :: P.zip vs) m x = _
  unfold bindL
  exact bindL_get (i := i) (List.nodup_cons.mp nd).2 (by simpa using h1) (by simpa using h2) hk
theorem bindC_get {kindOf : Str → Option NameKind} {x : Str} {v : Value} : ∀ {P : List Str} {vs : List Value} {i : Nat} {m : Str → Option Value}, P.Nodup → P[i]? = some x → vs[i]? = some v → kindOf x ≠ some .local →
  bindC kindOf (P.zip vs) m x = some v
 | [], _, _, _, _, h, _, _ => by simp at h
 | _ :: _, [], _, _, _, _, h, _ => by simp at h
 | p :: P, w :: vs, 0, m, nd, h1, h2, hk => by
  simp at h1 h2; subst h1; subst h2
  show bindC kindOf ((p, w) :: P.zip vs) m p = _
  unfold bindC
  rw [bindC_out fun v hv => (List.nodup_cons.mp nd).1 (List.of_mem_zip hv).1, if_neg hk]
  simp
 | p :: P, w :: vs, i + 1, m, nd, h1, h2, hk => by
  show bindC kindOf ((p, w) :: P.zip vs) m x = _
  unfold bindC
  exact bindC_get (i := i) (List.nodup_cons.mp nd).2 (by simpa using h1) (by simpa using h2) hk
def start (N : List Str) (vs : List V) : St := vs.map some ++ List.replicate (N.length - vs.length) none
def cxOf (CX : CXT) (P : Program) (w : World) (K : PySem.W.Frag) (mg : Str → Option Value) (base : Heap) (N : List Str) (qual : Str) (scope : Scope) (f : Addr) (cd : Value) (A : Around) (outer : List Env) (s : Shared) (H : Hp) (E : XK) : Cx where
 prog := P
 w := w
 K := K
 mg := mg
 base := base
 A := A.deeper (envOfC qual scope s.heap.objs.size f cd)
 N := N
 s₀ := s
 H₀ := H
 env := envOfC qual scope s.heap.objs.size f cd
 outer := outer
 stack := envOfC qual scope s.heap.objs.size f cd :: outer
 ex := []
 calm := true
 fn := fun _ => true
 pn := []
 xe := fun e s' => wpAny (model P w) (A.deeper (envOfC qual scope s.heap.objs.size f cd)) (leaving (envOfC qual scope s.heap.objs.size f cd) e) (fun _ s'' => CX outer H s E e s'') (fun e' s'' => CX outer H s E e' s'') s'
theorem cell_has {sc : Scope} {n : Nat} {x : Str} (h : sc.names.lookup x = some .cell) : ∃ c, (cellsFrom n sc.names []).lookup x = some c := by
 have q := PySem.W.cellsFrom_some sc.names n [] (.inl h)
 exact Option.isSome_iff_exists.mp q
theorem inv_start {CX : CXT} {P : Program} {w : World} {K : PySem.W.Frag} {mg : Str → Option Value} {base : Heap} {N ps : List Str} {qual : Str} {scope : Scope} {f : Addr} {cd : Value} {A : Around} {outer : List Env} {s s1 : Shared} {H : Hp} {E : XK} {us : List Value} {vs : List V}
  (S : FnScope N ps scope) (hd : A.handled = none) (e0 : Env0 P w K mg base A outer s H) (hl : vs.length = ps.length) (r : Vals vs us)
  (x : InCallC s s.heap.objs.size (bindL (envOfC qual scope s.heap.objs.size f cd).kindOf (ps.zip us) fun _ => none) (cellsFrom (s.heap.objs.size + 1) scope.names []) (bindC (envOfC qual scope s.heap.objs.size f cd).kindOf (ps.zip us) fun _ => none) s1) :
  Inv (cxOf CX P w K mg base N qual scope f cd A outer s H E) [] (start N vs) H s1 := by
 have hpl : ps.length ≤ N.length := by have := congrArg List.length S.pre; rw [List.length_take] at this; omega
 obtain ⟨h1, tk, rfl, hk⟩ := x.done
 have noA : ∀ b : Addr, b ∉ (cxOf CX P w K mg base N qual scope f cd A outer s H E).ex := fun b z => absurd (show b ∈ ([] : List Addr) from z) (by simp)
 refine ⟨⟨e0.mod, S.kind, rfl, rfl, Nat.le_refl _, fun y z c h1 h2 => ?_, fun y hy => ?_, fun y c _ h => ?_, fun _ => hd, Around.frames_deeper e0.frames, .inr ⟨rfl, rfl⟩, fun b z => absurd z (noA b), e0.bs, e0.bsz, fun b _ _ => noA b, fun b z => absurd z (noA b), e0.funs, e0.frf⟩,
  rfl, e0.bare, Un.kept hk, ⟨_, x.toInCall.ns, fun i y v h1 h2 h3 => ?_⟩, fun y c h => ⟨_, x.cell y c h⟩, e0.hok.fresh (Nat.le_refl _), fun y c h => ?_, fun p hp => absurd (show p ∈ ([] : List (Addr × Obj)) from hp) (by simp), e0.hok.kept hk, ?_⟩
 ·exact name_of_addr x.apart (PySem.mem_of_lookup h1) (PySem.mem_of_lookup h2)
 ·have hy : scope.names.lookup y = some .cell ∨ scope.names.lookup y = some .free := hy
  rcases hy with hy | hy
  ·exact cell_has hy
  ·exact absurd rfl (S.nofree _ (PySem.mem_of_lookup hy))
 ·exact Nat.le_of_lt (x.above y c (PySem.mem_of_lookup h))
 ·have hi : i < vs.length := by
   unfold start at h2
   by_cases hi : i < vs.length
   ·exact hi
   ·rw [List.getElem?_append_right (by simpa using hi)] at h2
    rw [List.getElem?_replicate] at h2
    split at h2 <;> cases h2
  have ha : vs[i]? = some v := by
   unfold start at h2
   rw [List.getElem?_append_left (by simpa using hi), List.getElem?_map] at h2
   cases e : vs[i]? with
   | none => rw [e] at h2; cases h2
   | some a => rw [e] at h2; cases h2; rfl
  obtain ⟨u, hu, rv⟩ := r.get ha
  have hp : ps[i]? = some y := by
   rw [← S.pre, List.getElem?_take_of_lt (by omega)]; exact h1
  have ndP : ps.Nodup := by rw [← S.pre]; exact S.nd.sublist (List.take_sublist _ _)
  refine ⟨u, rv, ?_⟩
  rcases S.par y (List.mem_of_getElem? hp) with k | k
  ·exact .inl ⟨k, bindL_get ndP hp hu k⟩
  ·obtain ⟨c, e⟩ := cell_has (n := s.heap.objs.size + 1) k
   refine .inr ⟨.inl k, c, e, ?_⟩
   have q := x.cell y c e
   rw [bindC_get ndP hp hu (by show scope.names.lookup y ≠ _; rw [k]; decide)] at q
   exact q
 ·exact e0.hok.fresh (Nat.le_of_lt (x.above y c (PySem.mem_of_lookup h)))
 ·unfold start
  show _ = N.length
  rw [List.length_append, List.length_map, List.length_replicate]
  omega
theorem fn_of {CX : CXT} {P : Program} {w : World} {K : PySem.W.Frag} {mg : Str → Option Value} {base : Heap} {k : Nat} {f : Addr} {name qual : Str} {params : Arguments} {body : List Stmt} {scope : Scope} {dV kV doc pm cdv ct oc : Value} {an od : Option Addr}
  {osl : Array (Option Value)} {N ps : List Str} {sp : Sp} (lk : K.lookup f = some ⟨oc, od, .func (PySem.W.fnOf name qual params body scope dV kV doc pm an cdv ct), osl⟩) (hcd : PySem.W.codeIn K cdv qual = true) (S : FnScope N ps scope)
  (len : ∀ vs H Q E, sp vs H Q E → vs.length = ps.length)
  (hbody : ∀ (A : Around) (outer : List Env) (s : Shared) (H : Hp) (vs : List V) (Q : VK) (E : XK), Room k (A.deeper (envOfC qual scope s.heap.objs.size f cdv)) → sp vs H Q E →
   ∃ t, PSs (cxOf CX P w K mg base N qual scope f cdv A outer s H E) body t ∧ t { nx := fun _ H' => Q .non H', rt := Q } (start N vs) H) :
  FnOk P w K mg base CX (k + 1) f (PySem.W.fnOf name qual params body scope dV kV doc pm an cdv ct) ps sp := by
 refine ⟨len, fun A outer s H args us vs Q E hr e0 hb r hsp => ?_⟩
 have hl := len _ _ _ _ hsp
 have KX : K.In s.heap := e0.mod.kin.keeps fun b o e => (e0.bs b o e).1
 have lim : s.heap.NoLimit := e0.mod.nolimit.keeps fun b o e => (e0.bs b o e).1
 have hkind : ∀ y ∈ ps.zip us, scope.names.lookup y.1 = some .local ∨ (scope.names.lookup y.1 = some .cell ∧ ((cellsFrom (s.heap.objs.size + 1) scope.names []).lookup y.1).isSome = true) := fun ⟨n, v⟩ hy => by
  rcases S.par n (List.of_mem_zip hy).1 with q | q
  ·exact .inl q
  ·exact .inr ⟨q, PySem.W.cellsFrom_some _ _ _ (.inl q)⟩
 refine codeAny_call_function hr.depth (KX _ _ lk) rfl S.co S.gen rfl (PySem.W.codeRec_of KX hcd) (hb _ _ _ _ ?_)
 refine wpAny_newFunctionEnv_cells S.kind hkind fun env he s1 x => ?_
 subst he
 refine ⟨lim.keeps x.toInCall.keep, codeAny_func ?_⟩
 obtain ⟨t, ht, hq⟩ := hbody A outer s H vs Q E (hr.deeper _) hsp
 have I : Inv (cxOf CX P w K mg base N qual scope f cdv A outer s H E) [] (start N vs) H s1 := inv_start S hr.hd e0 hl r x
 refine wpAny_mono (ht [] s1 (start N vs) H _ I hq) (fun fl s' hs => ?_) fun e s' hs => hs
 have fin : ∀ {σ' : St} {H' : Hp} {v : V} {u : Value}, Inv (cxOf CX P w K mg base N qual scope f cdv A outer s H E) [] σ' H' s' → RelV v u → Q v H' → CE outer P w H s Q u s' :=
  fun {σ' H' v u} J rv q => ⟨v, H', J.os, J.bare, J.base, J.hok, rv, q⟩
 cases fl with
 | ret u =>
  obtain ⟨v, σ', H', J, rv, q⟩ := hs
  exact fin J rv q
 | next =>
  obtain ⟨σ', H', J, q⟩ := hs
  exact fin (v := V.non) (u := Value.none) J rfl q
 | brk =>
  obtain ⟨_, _, _, q⟩ := hs
  exact False.elim q
 | cont =>
  obtain ⟨_, _, _, q⟩ := hs
  exact False.elim q
end L2
namespace L2
open PySem PySem.Spec PyProof.Rows
section
variable {X : Cx} {x : Str} {p pos : Pos} {e : Expr} {es : List Expr} {t : TA} {id T : String} {r : List V → Hp → VK → Prop}
def tCB (r : List V → Hp → VK → Prop) (t : TA) : TE := fun σ H Q => t σ H fun vs H1 => r vs H1 Q
theorem pe_callB (hc : CallR X (.builtin id) r) (hg : Gl X x) (hm : X.mg x = none) (hv : bootBuiltins x = some (.builtin id)) (ha : PA X (e :: es) t) (hn : x ≠ "__name__" := by decide) (hdb : (x == ("__debug__" : Str)) = false := by decide)
  (he : starEach (e :: es) X.env = (false, eval e X.env) :: starEach es X.env := by rfl) (hpl : (backTo pos (starEach es X.env)).any (·.1) = false := by rfl) : PE X (.Call (.Name x p) (e :: es) [] pos) (tCB r t) := by
 intro pins s σ H Q I h
 refine wpAny_Call_Name_kw (ld_blt I hg hm hv ?_ hn hdb)
 exact PyProof.Rows.callWith_builtin1 (thn (ha pos pins s σ H _ I h) fun us s1 ⟨vs, H1, I1, r1, q1⟩ => hc pins s1 σ H1 vs us Q I1 r1 q1) he hpl
theorem pe_callTy (hc : CallR X (.type T) r) (hg : Gl X x) (hm : X.mg x = none) (hv : bootBuiltins x = some (.type T)) (ha : PA X (e :: es) t) (hn : x ≠ "__name__" := by decide) (hdb : (x == ("__debug__" : Str)) = false := by decide)
  (he : starEach (e :: es) X.env = (false, eval e X.env) :: starEach es X.env := by rfl) (hpl : (backTo pos (starEach es X.env)).any (·.1) = false := by rfl) : PE X (.Call (.Name x p) (e :: es) [] pos) (tCB r t) := by
 intro pins s σ H Q I h
 refine wpAny_Call_Name_kw (ld_blt I hg hm hv ?_ hn hdb)
 exact PyProof.Rows.callWith_type1 (thn (ha pos pins s σ H _ I h) fun us s1 ⟨vs, H1, I1, r1, q1⟩ => hc pins s1 σ H1 vs us Q I1 r1 q1) he hpl
end
end L2
namespace HT
open PySem PyProof.Rows
section
open PySem.SeqAt
open PySem.AutoSeq1 (wpAny_loadPart')
open PySem.MeetsSeq PySem.MeetsSeq2 PySem.MeetsSeq3
end
section
variable {prog : Program} {w : World} {A : Around} {E : Value → Shared → Prop} {s : Shared}
def sIx (n d : Nat) : Option Int → Nat
 | none => d
 | some v => if v < 0 then (v + (n : Int)).toNat else min v.toNat n
theorem sIx_nat (n d k : Nat) : sIx n d (some (k : Int)) = min k n := by
 show (if (k : Int) < 0 then ((k : Int) + (n : Int)).toNat else min (k : Int).toNat n) = min k n
 rw [if_neg (by omega), Int.toNat_natCast]
theorem sIx_le (n d : Nat) (hd : d ≤ n) (o : Option Int) : sIx n d o ≤ n := by
 cases o with
 | none => exact hd
 | some v =>
  show (if v < 0 then (v + (n : Int)).toNat else min v.toNat n) ≤ n
  by_cases hv : v < 0
  ·rw [if_pos hv]; omega
  ·rw [if_neg hv]; exact Nat.min_le_right _ _
theorem clip_eq (v : Int) (n d : Nat) : (if v < 0 then max (v + (n : Int)) 0 else min v (n : Int)) = ((sIx n d (some v) : Nat) : Int) := by
 show (if v < 0 then max (v + (n : Int)) 0 else min v (n : Int)) = (((if v < 0 then (v + (n : Int)).toNat else min v.toNat n) : Nat) : Int)
 by_cases hv : v < 0
 ·simp only [if_pos hv]; omega
 ·simp only [if_neg hv]; omega
theorem adjust_gen (lo hi : Option Int) (n : Nat) : Builtin.Slice.sliceAdjust lo hi 1 (n : Int) = (((sIx n 0 lo : Nat) : Int), ((sIx n n hi : Nat) : Int)) := by
 have h1 : ¬ ((1 : Int) < 0) := by omega
 unfold Builtin.Slice.sliceAdjust
 simp only [h1, if_false]
 refine Prod.ext ?_ ?_
 ·cases lo with
  | none => rfl
  | some v => exact clip_eq v n 0
 ·cases hi with
  | none => rfl
  | some v => exact clip_eq v n n
theorem places_gen (i j : Nat) : Builtin.Slice.slicePlaces (i : Int) (j : Int) 1 = j - i := by
 unfold Builtin.Slice.slicePlaces
 have h1 : (1 : Int) > 0 := by omega
 simp only [h1, if_true, Int.ediv_one]
 split <;> omega
theorem slicePart_ {v : Value} {o : Option Int} {Q : Option Int → Shared → Prop} (p : IsPart v o) (h : Q o s) : wpAny (model prog w) A (Builtin.Slice.slicePartIndex v) Q E s := by
 cases p with
 | none => exact slicePart_none h
 | int i t => exact slicePart_int h
theorem sliceApplied_gen {sl : Addr} {vl vu : Value} {lo hi : Option Int} {n : Nat} {Q : Int × Int × Nat → Shared → Prop} (hs : s.heap.IsSliceOf sl vl vu .none) (pl : IsPart vl lo) (pu : IsPart vu hi)
  (h : Q (((sIx n 0 lo : Nat) : Int), 1, sIx n n hi - sIx n 0 lo) s) : wpAny (model prog w) A (Builtin.Slice.sliceApplied (.ref sl) (pure (n : Int))) Q E s := by
 obtain ⟨os, hos, hcs, hds⟩ := id hs
 unfold Builtin.Slice.sliceApplied Builtin.Slice.sliceFields
 refine wpAny_bind (wpAny_bind (wpAny_field hos hds (x := vl) rfl (wpAny_bind (wpAny_field hos hds (x := vu) rfl (wpAny_bind (wpAny_field hos hds (x := .none) rfl (wpAny_pure ?_)))))))
 refine wpAny_bind (slicePart_none ?_)
 show wpAny _ _ (if ((1 : Int) == 0) = true then _ else _) _ _ s
 rw [if_neg (by decide)]
 refine wpAny_bind (slicePart_ pl (wpAny_bind (slicePart_ pu (wpAny_bind (wpAny_pure ?_)))))
 show wpAny _ _ (match Builtin.Slice.sliceAdjust lo hi 1 (n : Int) with | (lo, hi) => pure (lo, (1 : Int), Builtin.Slice.slicePlaces lo hi 1)) _ _ s
 rw [adjust_gen lo hi n]
 show wpAny _ _ (pure (((sIx n 0 lo : Nat) : Int), (1 : Int), Builtin.Slice.slicePlaces ((sIx n 0 lo : Nat) : Int) ((sIx n n hi : Nat) : Int) 1)) _ _ s
 rw [places_gen]
 exact wpAny_pure h
theorem pick_gen (xs : Array Value) (i k : Nat) : ((List.range k).filterMap fun (m : Nat) => xs[((i : Int) + (m : Int) * 1).toNat]?).toArray = ((xs.toList.drop i).take k).toArray := by
 have e : (fun (m : Nat) => xs[((i : Int) + (m : Int) * 1).toNat]?) = fun m => xs[i + m]? := by
  funext m
  have : ((i : Int) + (m : Int) * 1).toNat = i + m := by omega
  rw [this]
 rw [e]
 have := pick_run xs i k
 rw [List.filterMap_map] at this
 have e2 : ((fun x => xs[x]?) ∘ fun x => i + x) = fun m => xs[i + m]? := rfl
 rw [e2] at this
 rw [this]
theorem getItem_tuple_cut {t sl : Addr} {items : Array Value} {vl vu : Value} {lo hi : Option Int} {Q : Value → Shared → Prop} (ht : IsTup s.heap t items) (hs : s.heap.IsSliceOf sl vl vu .none) (pl : IsPart vl lo) (pu : IsPart vu hi)
  (hw : ¬ (sIx items.size 0 lo = 0 ∧ sIx items.size items.size hi = items.size))
  (h : Q (.ref s.heap.objs.size) { s with heap := s.heap.push { cls := .type "tuple", data := .seq ((items.toList.drop (sIx items.size 0 lo)).take (sIx items.size items.size hi - sIx items.size 0 lo)).toArray } })
  (hsz : items.size ≤ sizeLine) : wpAny (model prog w) A (getItem (.ref t) (.ref sl)) Q E s := by
 have htake : sizeOk (.seq ((items.toList.drop (sIx items.size 0 lo)).take (sIx items.size items.size hi - sIx items.size 0 lo)).toArray) := by
  show ((items.toList.drop (sIx items.size 0 lo)).take (sIx items.size items.size hi - sIx items.size 0 lo)).toArray.size ≤ sizeLine
  rw [List.size_toArray, List.length_take, List.length_drop, Array.length_toList]
  omega
 have hj : sIx items.size items.size hi ≤ items.size := sIx_le _ _ (Nat.le_refl _) hi
 obtain ⟨os, hos, hcs, hds⟩ := id hs
 have hTs : s.TypeIs (.ref sl) "slice" := ⟨os, hos, hcs⟩
 unfold getItem
 try with_reducible refine wpAny_holding ?_
 first | refine wpAny_bind (wpAny_pure ?_) | skip
 refine wpAny_bind (wpAny_sequenceKey ht.typeIs (by decide) ?_)
 refine wpAny_bind (wpAny_callSpecial?_slot (name := Str.ofString "__getitem__") ht.typeIs PyProof.Rows.slot_tuple_getitem
  (wpAny_call_entry PyProof.Rows.slot_tuple_getitem ht.typeIs entry_tuple_getitem ?_ (args_tuple_getitem _ _)))
 show wpAny _ _ (Builtin.Tuple.tupleItemsOf (.ref t) >>= _) _ _ s
 refine wpAny_bind (tupleItemsOf_ ht ?_)
 refine wpAny_bind (wpAny_typeOf hTs ?_)
 rw [if_pos (by decide)]
 refine wpAny_bind (sliceApplied_gen hs pl pu ?_)
 have hno : ¬ ((((sIx items.size 0 lo : Nat) : Int) == 0 && (1 : Int) == 1 && (sIx items.size items.size hi - sIx items.size 0 lo) == items.size) = true) := by
  intro q
  rw [Bool.and_eq_true, Bool.and_eq_true] at q
  have q1 : ((sIx items.size 0 lo : Nat) : Int) = 0 := eq_of_beq q.1.1
  have q2 : sIx items.size items.size hi - sIx items.size 0 lo = items.size := eq_of_beq q.2
  exact hw ⟨by omega, by omega⟩
 show wpAny _ _ (if (((sIx items.size 0 lo : Nat) : Int) == 0 && (1 : Int) == 1 && (sIx items.size items.size hi - sIx items.size 0 lo) == items.size) = true then _ else _) _ _ s
 rw [if_neg hno, pick_gen]
 first
  | exact wpAny_bind (m := Builtin.Tuple.tupleExact _) (wpAny_newObj_type (wpAny_pure ⟨_, rfl, wpAny_pure h⟩) htake)
  | exact wpAny_bind (m := Builtin.Tuple.tupleExact _) (wpAny_newObj_type (wpAny_bind (wpAny_pure (wpAny_pure ⟨_, rfl, wpAny_pure h⟩))) htake)
  | exact wpAny_bind (wpAny_bind (m := Builtin.Tuple.tupleExact _) (wpAny_newObj_type (wpAny_pure (wpAny_pure ⟨_, rfl, wpAny_pure h⟩)) htake))
  | exact wpAny_bind (wpAny_bind (m := Builtin.Tuple.tupleExact _) (wpAny_newObj_type (wpAny_pure ⟨_, rfl, wpAny_pure h⟩) htake))
end
end HT
namespace L2
open PySem PySem.Spec PyProof.Rows
abbrev TO := St → Hp → (Option Int → Hp → Prop) → Prop
def PO (X : Cx) (e : Option Expr) (t : TO) : Prop :=
 ∀ (pins : List (Addr × Obj)) (s : Shared) (σ : St) (H : Hp) (Q : Option Int → Hp → Prop), Inv X pins σ H s → t σ H Q →
  wpAny (model X.prog X.w) X.A (evalPart e X.env) (fun u s' => ∃ o H', Inv X pins σ H' s' ∧ IsPart u o ∧ Q o H') X.xe s
def tNoPart : TO := fun _ H Q => Q none H
def tPart (t : TE) : TO := fun σ H Q => t σ H fun x H1 => ∃ i, x = .int i ∧ Q (some i) H1
section
variable {X : Cx} {e : Expr} {te : TE} {lo hi : Option Expr} {tl th : TO} {pos p2 : Pos}
theorem po_none : PO X none tNoPart := by
 intro pins s σ H Q I h
 rw [evalPart_none]
 exact wpAny_pure ⟨none, H, I, .none, h⟩
theorem po_some (h : PE X e te) : PO X (some e) (tPart te) := by
 intro pins s σ H Q I hw
 rw [evalPart_some]
 refine thn (h pins s σ H _ I hw) fun u s1 ⟨x, H1, I1, r1, q1⟩ => ?_
 obtain ⟨i, rfl, q⟩ := q1
 obtain ⟨t, rfl⟩ := r1
 exact ⟨some i, H1, I1, .int i t, q⟩
def SlR (X : Cx) (r : V → Option Int → Option Int → Hp → VK → Prop) : Prop :=
 ∀ (pins : List (Addr × Obj)) (s : Shared) (σ : St) (H : Hp) (x : V) (v vl vu : Value) (lo hi : Option Int) (sl : Addr) (Q : VK), Inv X pins σ H s → RelV x v → s.heap.IsSliceOf sl vl vu .none → IsPart vl lo → IsPart vu hi → r x lo hi H Q →
  ∃ T id, typeLookup (.type T) "__getitem__" = pure (some (.builtin id)) ∧ s.TypeIs v T ∧ wpAny (model X.prog X.w) X.A (getItem v (.ref sl)) (EP X pins σ Q) X.xe s
def tSl (r : V → Option Int → Option Int → Hp → VK → Prop) (te : TE) (tl th : TO) : TE := fun σ H Q => te σ H fun x H1 => tl σ H1 fun l H2 => th σ H2 fun u H3 => r x l u H3 Q
theorem pe_slice {r : V → Option Int → Option Int → Hp → VK → Prop} (hr : SlR X r) (he : PE X e te) (hl : PO X lo tl) (hu : PO X hi th) : PE X (.Subscript e (.Slice lo hi none p2) pos) (tSl r te tl th) := by
 intro pins s σ H Q I h
 refine Subscript_ (thn (he pins s σ H _ I h) fun v s1 ⟨x, H1, I1, r1, q1⟩ => ?_)
 refine wpAny_Slice (thn (hl pins s1 σ H1 _ I1 q1) fun vl s2 ⟨l, H2, I2, pl, q2⟩ => thn (hu pins s2 σ H2 _ I2 q2) fun vu s3 ⟨u, H3, I3, pu, q3⟩ => ?_)
 rw [evalPart_none]
 refine wpAny_pure ?_
 have I4 : Inv X pins σ H3 { s3 with heap := s3.heap.push { cls := .type "slice", data := .fields #[vl, vu, .none] } } := I3.kept (t' := s3.toks) fun b ob q => Heap.get?_push_of_some _ q
 obtain ⟨T, id, hT, ht, hg⟩ := hr pins { s3 with heap := s3.heap.push { cls := .type "slice", data := .fields #[vl, vu, .none] } } σ H3 x v vl vu l u s3.heap.objs.size Q I4 r1 (Heap.IsSliceOf.new ..) pl pu q3
 show wpAny (model X.prog X.w) X.A (subscriptTail e (.Slice lo hi none p2) v (.ref s3.heap.objs.size)) (EP X pins σ Q) X.xe { s3 with heap := s3.heap.push { cls := .type "slice", data := .fields #[vl, vu, .none] } }
 exact tail_any (ops := [.ref s3.heap.objs.size, v]) ht hT hg (by with_unfolding_all rfl)
def cutV (xs : List V) (lo hi : Option Int) : List V := (xs.drop (HT.sIx xs.length 0 lo)).take (HT.sIx xs.length xs.length hi - HT.sIx xs.length 0 lo)
theorem cutV_length (xs : List V) (lo hi : Option Int) : (cutV xs lo hi).length ≤ xs.length := by
 unfold cutV
 rw [List.length_take, List.length_drop]
 omega
end
end L2
namespace L2
open PySem PySem.Spec PyProof.Rows
def ixN (n : Nat) (i : Int) : Option Nat := if 0 ≤ i then (if i < n then some i.toNat else none) else if -(n : Int) ≤ i then some (i + n).toNat else none
def atI {α : Type} (xs : List α) (i : Int) : Option α := (ixN xs.length i).bind fun j => xs[j]?
theorem ixN_seq {n : Nat} {i : Int} {j : Nat} (h : ixN n i = some j) : seqIndex? i n = some j ∧ j < n ∧ -(n : Int) ≤ i ∧ i < n := by
 unfold ixN at h
 by_cases h0 : 0 ≤ i
 ·rw [if_pos h0] at h
  by_cases h1 : i < n
  ·rw [if_pos h1] at h
   have e : i.toNat = j := Option.some.inj h
   exact ⟨by rw [seqIndex_of h0 h1, e], by omega, by omega, h1⟩
  ·rw [if_neg h1] at h; cases h
 ·rw [if_neg h0] at h
  by_cases h1 : -(n : Int) ≤ i
  ·rw [if_pos h1] at h
   have e : (i + n).toNat = j := Option.some.inj h
   exact ⟨by rw [seqIndex_neg (by omega) h1, e], by omega, h1, by omega⟩
  ·rw [if_neg h1] at h; cases h
theorem atI_get {α : Type} {xs : List α} {i : Int} {v : α} (h : atI xs i = some v) : ∃ j, seqIndex? i xs.length = some j ∧ xs[j]? = some v ∧ j < xs.length ∧ -(xs.length : Int) ≤ i ∧ i < xs.length := by
 unfold atI at h
 cases e : ixN xs.length i with
 | none => rw [e] at h; cases h
 | some j =>
  rw [e] at h
  obtain ⟨h1, h2, h3, h4⟩ := ixN_seq e
  exact ⟨j, h1, h, h2, h3, h4⟩
theorem atI_nat {α : Type} {xs : List α} {j : Nat} {v : α} (h : xs[j]? = some v) : atI xs (j : Int) = some v := by
 have hj : j < xs.length := (List.getElem?_eq_some_iff.mp h).1
 have e : ixN xs.length (j : Int) = some j := by
  unfold ixN
  rw [if_pos (by omega), if_pos (by omega)]; simp
 unfold atI; rw [e]; exact h
def PlainIx (b : Expr) : Prop := ∀ o i, subscripted b false o i = operate [o, i] (getItem o i)
def IxR (X : Cx) (r : R2) : Prop :=
 ∀ (value slice : Expr) (pins : List (Addr × Obj)) (s : Shared) (σ : St) (H : Hp) (x y : V) (v u : Value) (Q : VK), Inv X pins σ H s → RelV x v → RelV y u → r x y H Q →
  subscripted slice false v u = operate [v, u] (getItem v u) → wpAny (model X.prog X.w) X.A (subscriptTail value slice v u) (EP X pins σ Q) X.xe s
def MtR (X : Cx) (id : String) (r : V → List V → Hp → VK → Prop) : Prop :=
 ∀ (pins : List (Addr × Obj)) (s : Shared) (σ : St) (H : Hp) (x : V) (xs : List V) (v : Value) (us : List Value) (Q : VK), Inv X pins σ H s → RelV x v → Vals xs us → r x xs H Q →
  wpAny (model X.prog X.w) X.A (call (.builtin id) (v :: us)) (EP X pins σ Q) X.xe s
section
variable {X : Cx} {a b : Expr} {ta tb : TE} {pos : Pos}
theorem pe_ix {r : R2} (hr : IxR X r) (ha : PE X a ta) (hb : PE X b tb) (hs : PlainIx b) : PE X (.Subscript a b pos) (tOp r ta tb) := by
 intro pins s σ H Q I h
 exact Subscript_ (binT ha hb I h fun v u s2 x y H2 I2 rx ry q => hr a b pins s2 σ H2 x y v u Q I2 rx ry q (hs _ _))
def rIxL (K : PySem.W.Frag) : R2 := fun x y H Q => ∃ p xs i v, x = .ref p ∧ y = .int i ∧ SqL K H p xs ∧ atI xs i = some v ∧ Q v H
def rIxT (K : PySem.W.Frag) : R2 := fun x y H Q => ∃ p xs i v, x = .ref p ∧ y = .int i ∧ SqT K H p xs ∧ atI xs i = some v ∧ Q v H
def rIxS : R2 := fun x y H Q => ∃ z i c, x = .str z ∧ y = .int i ∧ z.length ≤ sizeLine ∧ atI z.cps.toList i = some c ∧ Q (.str ⟨#[c]⟩) H
theorem ix_list : IxR X (rIxL X.K) := by
 intro value slice pins s σ H x y v u Q I rx ry h hs
 obtain ⟨p, xs, i, z, rfl, rfl, hq, he, q⟩ := h
 cases rx
 obtain ⟨t, rfl⟩ := ry
 obtain ⟨its, r, pl, hz⟩ := I.list hq
 obtain ⟨j, h1, h2, h3, h4, h5⟩ := atI_get he
 obtain ⟨w, ew, rw'⟩ := r.get h2
 have hl := r.length
 have hn := line63
 have fin : EP X pins σ Q w s := ⟨z, H, I, rw', q⟩
 by_cases h0 : 0 ≤ i
 ·have hj : i.toNat = j := by
   rw [seqIndex_of h0 h5] at h1
   exact Option.some.inj h1
  exact item_listR pl.isList h0 (by omega) (by rw [hj]; simpa using ew) fin hs
 ·have hj : (i + (its.toArray.size : Int)).toNat = j := by
   rw [seqIndex_neg (by omega) h4] at h1
   rw [List.size_toArray, ← hl]
   exact Option.some.inj h1
  exact subscriptTail_builtinR (x := w) pl.isList.typeIs slot_list_getitem.lookup
   (wpAny_getItem_list_neg (Q := fun r s' => r = w ∧ EP X pins σ Q r s') pl.isList (by omega) (by rw [List.size_toArray] <;> omega) (by omega) (by rw [hj]; simpa using ew) ⟨rfl, fin⟩) hs
theorem ix_tup : IxR X (rIxT X.K) := by
 intro value slice pins s σ H x y v u Q I rx ry h hs
 obtain ⟨p, xs, i, z, rfl, rfl, hq, he, q⟩ := h
 cases rx
 obtain ⟨t, rfl⟩ := ry
 obtain ⟨its, r, pl, hz⟩ := I.tuple hq
 obtain ⟨j, h1, h2, h3, h4, h5⟩ := atI_get he
 obtain ⟨w, ew, rw'⟩ := r.get h2
 have hl := r.length
 have hn := line63
 have fin : EP X pins σ Q w s := ⟨z, H, I, rw', q⟩
 exact subscriptTail_builtinR (x := w) pl.typeIs slot_tuple_getitem.lookup
  (getItem_tuple (j := j) (Q := fun r s' => r = w ∧ EP X pins σ Q r s') pl (by omega) (by omega) (by rw [List.size_toArray, ← hl]; exact h1) (by simpa using ew) ⟨rfl, fin⟩) hs
theorem ix_str : IxR X rIxS := by
 intro value slice pins s σ H x y v u Q I rx ry h hs
 obtain ⟨z, i, c, rfl, rfl, hz, he, q⟩ := h
 obtain ⟨t, rfl⟩ := rx
 obtain ⟨t', rfl⟩ := ry
 obtain ⟨j, h1, h2, h3, h4, h5⟩ := atI_get he
 have hl : z.cps.toList.length = z.length := by simp [Str.length]
 rw [hl] at h1 h4 h5
 have hn := line63
 exact tail_any (typeIs_str s z t) slot_str_getitem.lookup (getItem_str (c := c) (by
  have e1 : decide (i < -(2 ^ 63 : Int)) = false := decide_eq_false (by omega)
  have e2 : decide (i ≥ 2 ^ 63) = false := decide_eq_false (by omega)
  rw [e1, e2, Bool.or_false]) (by rw [h1]; simpa using h2) ⟨.str ⟨#[c]⟩, H, I.tok _, ⟨_, rfl⟩, q⟩) hs
theorem mapSeq_set (its : List Value) (n j : Nat) (u : Value) : Obj.mapSeq (·.setIfInBounds j u) { cls := .type "list", data := .seq its.toArray n } = { cls := .type "list", data := .seq (its.set j u).toArray n } := by
 simp [Obj.mapSeq]
theorem Inv.lst {pins : List (Addr × Obj)} {σ : St} {H : Hp} {s : Shared} {p : Addr} {xs : List V} (I : Inv X pins σ H s) (h : H p = some (.lst xs)) :
  ∃ (its : List Value) (n : Nat), Vals xs its ∧ s.heap.get? p = some { cls := .type "list", data := .seq its.toArray n } ∧ xs.length ≤ sizeLine := by
 obtain ⟨z, its, n, r, e⟩ := I.hok p _ h
 exact ⟨its, n, r, e, z⟩
theorem Inv.lstUpd {pins : List (Addr × Obj)} {σ : St} {H : Hp} {s : Shared} {p : Addr} {xs ys : List V} {its its' : List Value} {n n' : Nat} {f : Obj → Obj} (I : Inv X pins σ H s) (h : H p = some (.lst xs))
  (ho : s.heap.get? p = some { cls := .type "list", data := .seq its.toArray n }) (hf : f { cls := .type "list", data := .seq its.toArray n } = { cls := .type "list", data := .seq its'.toArray n' }) (r : Vals ys its') (hz : ys.length ≤ sizeLine) (t : Nat) :
  Inv X pins σ (upd H p (.lst ys)) { s with heap := s.heap.update p f, toks := t } := by
 have e : (s.heap.update p f).get? p = some { cls := .type "list", data := .seq its'.toArray n' } := by
  rw [Heap.get?_update_self f ho (by rw [hf] <;> rfl), hf]
 refine I.write (x := p) (e := p) (by rw [h]; trivial) (.inl rfl) (fun b u hb q => (Heap.get?_update_other _ _ (Ne.symm hb)).trans q) ⟨_, e⟩ ?_
 exact ⟨hz, its', n', r, e⟩
def rSetL : V → V → V → Hp → (Hp → Prop) → Prop := fun o i v H Q => ∃ p xs k j, o = .ref p ∧ i = .int k ∧ H p = some (.lst xs) ∧ ixN xs.length k = some j ∧ Q (upd H p (.lst (xs.set j v)))
theorem set_list : PSet X rSetL := by
 intro pins s σ H o i v ov iv u Q I ro ri rv h
 obtain ⟨p, xs, k, j, rfl, rfl, hp, hj, q⟩ := h
 cases ro
 obtain ⟨t, rfl⟩ := ri
 obtain ⟨its, n, r, ho, hz⟩ := I.lst hp
 obtain ⟨h1, h2, h3, h4⟩ := ixN_seq hj
 have hl := r.length
 have hn := line63
 have I' : Inv X pins σ (upd H p (.lst (xs.set j v))) { s with heap := s.heap.update p (Obj.mapSeq (·.setIfInBounds j u)) } :=
  I.lstUpd hp ho (mapSeq_set its n j u) (r.set rv j) (by rw [List.length_set]; exact hz) s.toks
 by_cases h0 : 0 ≤ k
 ·have hk : k.toNat = j := by
   rw [seqIndex_of h0 h4] at h1
   exact Option.some.inj h1
  exact PySem.W.ki_setAt ho h0 (by omega) (by rw [List.size_toArray, ← hl]; exact h4) (by rw [hk]; exact ⟨_, I', q⟩)
 ·have hk : (k + (its.toArray.size : Int)).toNat = j := by
   rw [seqIndex_neg (by omega) h3] at h1
   rw [List.size_toArray, ← hl]
   exact Option.some.inj h1
  exact PySem.W.ki_setBack ho (by omega) (by rw [List.size_toArray, ← hl]; exact h3) (by omega) (by rw [hk]; exact ⟨_, I', q⟩)
theorem slice_bounds (lo hi : Option Int) (n : Nat) : (sliceBounds lo hi none n).1 = ((HT.sIx n 0 lo : Nat) : Int) ∧ (sliceBounds lo hi none n).2.1 = ((HT.sIx n n hi : Nat) : Int) ∧ (sliceBounds lo hi none n).2.2 = 1 := by
 refine ⟨?_, ?_, rfl⟩
 ·cases lo with
  | none => simp [sliceBounds, HT.sIx]
  | some i =>
   simp only [sliceBounds, HT.sIx, Option.getD_none, show (1 : Int) > 0 by decide, if_true]
   by_cases h : i < 0
   ·simp only [h, if_true] <;> omega
   ·simp only [h, if_false] <;> omega
 ·cases hi with
  | none => simp [sliceBounds, HT.sIx]
  | some i =>
   simp only [sliceBounds, HT.sIx, Option.getD_none, show (1 : Int) > 0 by decide, if_true]
   by_cases h : i < 0
   ·simp only [h, if_true] <;> omega
   ·simp only [h, if_false] <;> omega
theorem slicePick_cut (its : List Value) (lo hi : Option Int) : slicePick its.toArray lo hi none = ((its.drop (HT.sIx its.length 0 lo)).take (HT.sIx its.length its.length hi - HT.sIx its.length 0 lo)).toArray := by
 obtain ⟨h1, h2, h3⟩ := slice_bounds lo hi its.toArray.size
 unfold slicePick
 rw [h1, h2, h3]
 simp only [sliceRange_one, pick_run, List.size_toArray] <;> rfl
def rSlL (K : PySem.W.Frag) : V → Option Int → Option Int → Hp → VK → Prop := fun x lo hi H Q => ∃ a xs, x = .ref a ∧ SqL K H a xs ∧ ∀ p, H p = none → Q (.ref p) (upd H p (.lst (cutV xs lo hi)))
theorem sl_list : SlR X (rSlL X.K) := by
 intro pins s σ H x v vl vu lo hi sl Q I rx hs pl pu h
 obtain ⟨a, xs, rfl, hx, q⟩ := h
 cases rx
 obtain ⟨its, r, ht, hz⟩ := I.list hx
 have hlen := r.length
 refine ⟨"list", _, slot_list_getitem.lookup, ht.isList.typeIs, ?_⟩
 refine wpAny_getItem_list_slice ht.isList hs pl pu .none (by simp) ?_ (by rw [List.size_toArray] <;> omega)
 rw [slicePick_cut, ← hlen]
 refine ⟨.ref s.heap.objs.size, _, I.laid (t' := s.toks) (o := .lst (cutV xs lo hi)) (fun b ob q => Heap.get?_push_of_some _ q) (Nat.le_refl _) ?_, rfl, q _ (I.hok.fresh (Nat.le_refl _))⟩
 exact ⟨Nat.le_trans (cutV_length xs lo hi) hz, _, 0, (r.drop (HT.sIx xs.length 0 lo)).take (HT.sIx xs.length xs.length hi - HT.sIx xs.length 0 lo), Heap.get?_push_size _ rfl⟩
def flatV : V → Bool
 | .non => true
 | .bl _ => true
 | .int _ => true
 | .str _ => true
 | _ => false
def eqV : V → V → Bool
 | .non, .non => true
 | .bl a, .bl b => a == b
 | .bl a, .int b => (if a then 1 else 0) == b
 | .int a, .bl b => a == (if b then 1 else 0)
 | .int a, .int b => a == b
 | .str a, .str b => a == b
 | _, _ => false
theorem eqAt_V {A : Around} {s : Shared} {y x : V} {u v : Value} (ry : RelV y u) (rx : RelV x v) (fy : flatV y = true) (fx : flatV x = true) : SeqAt.EqAt A s u v (eqV y x) := by
 cases y with
 | non =>
  cases ry
  cases x with
  | non => cases rx; exact SeqAt.EqAt.same _
  | bl b => cases rx; exact SeqAt.EqAt.none_bool b
  | int b => obtain ⟨t, rfl⟩ := rx; exact SeqAt.EqAt.none_int b t
  | str b => obtain ⟨t, rfl⟩ := rx; exact SeqAt.EqAt.none_str b t
  | _ => exact absurd (show false = true from fx) Bool.false_ne_true
 | bl a =>
  cases ry
  cases x with
  | non => cases rx; exact SeqAt.EqAt.bool_none a
  | bl b => cases rx; exact SeqAt.EqAt.bool_bool a b
  | int b => obtain ⟨t, rfl⟩ := rx; exact SeqAt.EqAt.bool_int a b t
  | str b => obtain ⟨t, rfl⟩ := rx; exact SeqAt.EqAt.bool_str a b t
  | _ => exact absurd (show false = true from fx) Bool.false_ne_true
 | int a =>
  obtain ⟨t', rfl⟩ := ry
  cases x with
  | non => cases rx; exact SeqAt.EqAt.int_none a t'
  | bl b => cases rx; exact SeqAt.EqAt.int_bool a t' b
  | int b => obtain ⟨t, rfl⟩ := rx; exact SeqAt.EqAt.int_int a t' b t
  | str b => obtain ⟨t, rfl⟩ := rx; exact SeqAt.EqAt.int_str a t' b t
  | _ => exact absurd (show false = true from fx) Bool.false_ne_true
 | str a =>
  obtain ⟨t', rfl⟩ := ry
  cases x with
  | non => cases rx; exact SeqAt.EqAt.str_none a t'
  | bl b => cases rx; exact SeqAt.EqAt.str_bool a t' b
  | int b => obtain ⟨t, rfl⟩ := rx; exact SeqAt.EqAt.str_int a t' b t
  | str b => obtain ⟨t, rfl⟩ := rx; exact SeqAt.EqAt.str_str a t' b t
  | _ => exact absurd (show false = true from fx) Bool.false_ne_true
 | _ => exact absurd (show false = true from fy) Bool.false_ne_true
def eqU (x : V) (u : Value) : Bool := match u with
 | .none => eqV .non x
 | .bool b => eqV (.bl b) x
 | .int i _ => eqV (.int i) x
 | .str z _ => eqV (.str z) x
 | _ => false
theorem eqU_of {x y : V} {u : Value} (r : RelV y u) (f : flatV y = true) : eqU x u = eqV y x := by
 cases y with
 | non => cases r; rfl
 | bl b => cases r; rfl
 | int i => obtain ⟨t, rfl⟩ := r; rfl
 | str z => obtain ⟨t, rfl⟩ := r; rfl
 | _ => exact absurd (show false = true from f) Bool.false_ne_true
theorem any_eqU {x : V} : ∀ {xs : List V} {us : List Value}, Vals xs us → xs.all flatV = true → us.any (eqU x) = xs.any fun y => eqV y x
 | _, _, .nil, _ => rfl
 | y :: xs, u :: us, .cons r t, f => by
  rw [List.all_cons, Bool.and_eq_true] at f
  rw [List.any_cons, List.any_cons, eqU_of r f.1, any_eqU t f.2]
theorem mem_eqAt {A : Around} {s : Shared} {x : V} {v : Value} (rx : RelV x v) (fx : flatV x = true) : ∀ {xs : List V} {us : List Value}, Vals xs us → xs.all flatV = true → ∀ u ∈ us, SeqAt.EqAt A s u v (eqU x u)
 | _, _, .nil, _ => fun u hu => by cases hu
 | y :: xs, u :: us, .cons r t, f => fun u' hu => by
  rw [List.all_cons, Bool.and_eq_true] at f
  rcases List.mem_cons.mp hu with rfl | hu
  ·rw [eqU_of r f.1]; exact eqAt_V r rx f.1 fx
  ·exact mem_eqAt rx fx t f.2 u' hu
def inV (x : V) (xs : List V) : Bool := xs.any fun y => eqV y x
def rIn (K : PySem.W.Frag) (neg : Bool) : R2 := fun x y H Q => ∃ p xs, y = .ref p ∧ (SqL K H p xs ∨ SqT K H p xs) ∧ flatV x = true ∧ xs.all flatV = true ∧ Q (.bl (if neg then !inV x xs else inV x xs)) H
theorem op_in_seq : OpR X (compareOp .In) (rIn X.K false) := by
 intro pins s σ H x y v u Q I rx ry h
 obtain ⟨p, xs, rfl, hq, fx, fs, q⟩ := h
 cases ry
 rcases hq with hq | hq
 ·obtain ⟨its, r, pl, hz⟩ := I.list hq
  refine SeqAt.in_listAt (eqU x) pl.isList (fun w hw => mem_eqAt rx fx r fs w (by simpa using hw)) ⟨.bl _, H, I, rfl, ?_⟩
  rw [show its.toArray.any (eqU x) = its.any (eqU x) by simp, any_eqU r fs]
  exact q
 ·obtain ⟨its, r, pl, hz⟩ := I.tuple hq
  refine SeqAt.in_tupleAt (eqU x) pl (fun w hw => mem_eqAt rx fx r fs w (by simpa using hw)) ⟨.bl _, H, I, rfl, ?_⟩
  rw [show its.toArray.any (eqU x) = its.any (eqU x) by simp, any_eqU r fs]
  exact q
theorem op_notIn_seq : OpR X (compareOp .NotIn) (rIn X.K true) := by
 intro pins s σ H x y v u Q I rx ry h
 obtain ⟨p, xs, rfl, hq, fx, fs, q⟩ := h
 cases ry
 rcases hq with hq | hq
 ·obtain ⟨its, r, pl, hz⟩ := I.list hq
  refine SeqAt.notIn_listAt (eqU x) pl.isList (fun w hw => mem_eqAt rx fx r fs w (by simpa using hw)) ⟨.bl _, H, I, rfl, ?_⟩
  rw [show its.toArray.any (eqU x) = its.any (eqU x) by simp, any_eqU r fs]
  exact q
 ·obtain ⟨its, r, pl, hz⟩ := I.tuple hq
  refine SeqAt.notIn_tupleAt (eqU x) pl (fun w hw => mem_eqAt rx fx r fs w (by simpa using hw)) ⟨.bl _, H, I, rfl, ?_⟩
  rw [show its.toArray.any (eqU x) = its.any (eqU x) by simp, any_eqU r fs]
  exact q
theorem call_len_seq : CallR X (.builtin "len") (fun xs H Q => ∃ p ys, xs = [.ref p] ∧ (SqL X.K H p ys ∨ SqT X.K H p ys) ∧ Q (.int ys.length) H) := by
 intro pins s σ H xs us Q I r h
 obtain ⟨p, ys, rfl, hq, q⟩ := h
 obtain ⟨u, rfl, rx⟩ := vals1 r
 cases rx
 have hn := line63
 rcases hq with hq | hq
 ·obtain ⟨its, r', pl, hz⟩ := I.list hq
  have hlen := r'.length
  exact Calls.call_len_list pl.isList (by simp only [List.size_toArray] <;> omega) ⟨.int ys.length, H, I.tok _, ⟨s.toks + 1, by rw [List.size_toArray, hlen]⟩, q⟩
 ·obtain ⟨its, r', pl, hz⟩ := I.tuple hq
  have hlen := r'.length
  exact len_tuple pl (by simp only [List.size_toArray] <;> omega) ⟨.int ys.length, H, I.tok _, ⟨s.toks + 1, by rw [List.size_toArray, hlen]⟩, q⟩
theorem call_len_str : CallR X (.builtin "len") (fun xs H Q => ∃ z, xs = [.str z] ∧ z.length ≤ sizeLine ∧ Q (.int z.length) H) := by
 intro pins s σ H xs us Q I r h
 obtain ⟨z, rfl, hz, q⟩ := h
 obtain ⟨u, rfl, t, rfl⟩ := vals1 r
 have hn := line63
 exact len_str (by omega) ⟨.int z.length, H, I.tok _, ⟨_, rfl⟩, q⟩
theorem call_tuple_of : CallR X (.type "tuple") (fun xs H Q => ∃ p ys, xs = [.ref p] ∧ ((SqL X.K H p ys ∧ ∀ l, H l = none → Q (.ref l) (upd H l (.tup ys))) ∨ (SqT X.K H p ys ∧ Q (.ref p) H))) := by
 intro pins s σ H xs us Q I r h
 obtain ⟨p, ys, rfl, h⟩ := h
 obtain ⟨u, rfl, rx⟩ := vals1 r
 cases rx
 rcases h with ⟨hq, q⟩ | ⟨hq, q⟩
 ·obtain ⟨its, r', pl, hz⟩ := I.list hq
  have hlen := r'.length
  refine call_tuple_list pl.isList (fun h' kp => ?_) (by simp only [List.size_toArray] <;> omega)
  have I1 : Inv X pins σ H { s with heap := h' } := I.kept (t' := s.toks) kp
  have I2 : Inv X pins σ (upd H h'.objs.size (.tup ys)) { s with heap := h'.push { cls := .type "tuple", data := .seq its.toArray } } :=
   I1.laid (t' := s.toks) (fun b o e => Heap.get?_push_of_some _ e) (Nat.le_refl _) (show ObjOk X.prog X.w _ _ _ (.tup ys) from ⟨hz, its, r', IsTup.new _ _⟩)
  exact ⟨.ref h'.objs.size, _, I2, rfl, q _ (I1.hok.fresh (Nat.le_refl _))⟩
 ·obtain ⟨its, r', pl, hz⟩ := I.tuple hq
  exact call_tuple_same pl ⟨.ref p, H, I, rfl, q⟩
def tyV (K : PySem.W.Frag) (T : String) (x : V) (H : Hp) : Prop := match x with
 | .str _ => T = "str"
 | .int _ => T = "int"
 | .ref p => (T = "list" ∧ ∃ xs, SqL K H p xs) ∨ (T = "tuple" ∧ ∃ o, K.lookup p = some o ∧ o.cls = .type "tuple" ∧ o.dict = none) ∨
   (T = "dict" ∧ ((∃ kvs, H p = some (.dK kvs)) ∨ ∃ kvs, H p = some (.dT kvs))) ∨ (T = "set" ∧ ∃ S n, H p = some (.set S n))
 | _ => False
theorem tyV_is {pins : List (Addr × Obj)} {σ : St} {H : Hp} {s : Shared} {T : String} {x : V} {v : Value} (I : Inv X pins σ H s) (r : RelV x v) (ty : tyV X.K T x H) :
  s.TypeIs v T ∧ ∀ a, v = .ref a → ∃ ob, s.heap.get? a = some ob ∧ ob.dict = none := by
 cases x with
 | str z =>
  obtain ⟨t, rfl⟩ := r
  cases (show T = "str" from ty)
  exact ⟨typeIs_str s z t, fun _ e => nomatch e⟩
 | int i =>
  obtain ⟨t, rfl⟩ := r
  cases (show T = "int" from ty)
  exact ⟨typeIs_int s i t, fun _ e => nomatch e⟩
 | ref p =>
  cases r
  rcases ty with ⟨rfl, xs, hq⟩ | ⟨rfl, o, hk, hc, hd⟩ | ⟨rfl, hk⟩ | ⟨rfl, S, n, hk⟩
  ·obtain ⟨its, _, pl, _⟩ := I.list hq
   refine ⟨pl.isList.typeIs, fun a e => ?_⟩
   cases e
   obtain ⟨o, n, e, c, hd, _⟩ := pl
   exact ⟨o, e, hd⟩
  ·refine ⟨⟨o, I.kIn p o hk, hc⟩, fun a e => ?_⟩
   cases e
   exact ⟨o, I.kIn _ o hk, hd⟩
  ·have z : ∃ o, s.heap.get? p = some o ∧ o.ExactDict := by
    rcases hk with ⟨kvs, hk⟩ | ⟨kvs, hk⟩
    ·obtain ⟨_, _, _, _, o, _, _, e, ex, _⟩ := I.hok p _ hk
     exact ⟨o, e, ex⟩
    ·obtain ⟨_, _, _, _, o, _, _, e, ex, _⟩ := I.hok p _ hk
     exact ⟨o, e, ex⟩
   obtain ⟨o, e, ex⟩ := z
   refine ⟨⟨o, e, ex.1⟩, fun a e2 => ?_⟩
   cases e2
   exact ⟨o, e, ex.2.1⟩
  ·obtain ⟨o, _, _, _, e, ex, _⟩ := I.hok p _ hk
   refine ⟨⟨o, e, ex.1⟩, fun a e2 => ?_⟩
   cases e2
   exact ⟨o, e, ex.2.1⟩
 | _ => exact False.elim ty
def tBM (K : PySem.W.Frag) (T : String) (r : V → List V → Hp → VK → Prop) (to : TE) (t : TA) : TE := fun σ H Q => to σ H fun x H1 => tyV K T x H1 ∧ t σ H1 fun xs H2 => r x xs H2 Q
variable {o e : Expr} {es : List Expr} {to : TE} {t : TA} {name : Str} {apos cpos : Pos} {T id : String} {r : V → List V → Hp → VK → Prop}
theorem pe_bm (pa : PlainAttrs T) (slot : Slot T name id) (hty : typeOf (.builtin id) = pure (.type "method_descriptor")) (hm : MtR X id r) (ho : PE X o to) (ha : PA X (e :: es) t)
  (hbase : attributeBase o name X.env (eval o X.env) = eval o X.env := by rfl)
  (hfew : ((backTo cpos (starEach (e :: es) X.env)).all (fun x => !x.1) && (backToKw cpos (keywordEach [] X.env)).all (fun x => x.1.isSome)
   && decide ((e :: es).length + ([] : List Keyword).length + (if ([] : List Keyword).isEmpty then 0 else 1) < 30)) = true := by rfl)
  (hline : (apos.endLine == cpos.line) = true := by rfl) (hs : starEach (e :: es) X.env = (false, eval e X.env) :: starEach es X.env := by rfl) (hplain : (backTo cpos (starEach es X.env)).any (·.1) = false := by rfl) :
  PE X (.Call (.Attribute o name apos) (e :: es) [] cpos) (tBM X.K T r to t) := by
 intro pins s σ H Q I h
 refine wpAny_Call_method_late hbase hfew hline rfl (thn (ho pins s σ H _ I h) fun v s1 ⟨x, H1, I1, r1, ty, q1⟩ => ?_)
 obtain ⟨h1, h2⟩ := tyV_is I1 r1 ty
 refine ⟨T, id, pa, slot, hty, h1, h2, ?_⟩
 have hA := ha cpos pins s1 σ H1 _ I1 q1
 rw [hs] at hA ⊢
 refine Calls.callWith_builtin (by show (false || (backTo cpos (starEach es X.env)).any (·.1)) = false; rw [hplain] <;> rfl) (Calls.evalArgs_plain ?_)
 exact thn hA fun us s2 ⟨vs, H2, I2, r2, q2⟩ => hm pins s2 σ H2 x vs v us Q I2 r1 r2 q2
end
end L2
namespace L2
open PySem PySem.Spec PyProof.Rows
def MtM (X : Cx) (id : String) (r : V → List V → Hp → VK → Prop) : Prop :=
 ∀ (pins : List (Addr × Obj)) (s : Shared) (σ : St) (H : Hp) (x : V) (xs : List V) (v : Value) (us : List Value) (Q : VK), Inv X pins σ H s → RelV x v → Vals xs us → r x xs H Q →
  wpAny (model X.prog X.w) X.A (call (.builtin id) (v :: us)) (EP X pins σ Q) X.xe s
theorem Vals.one : ∀ {x : V} {us : List Value}, Vals [x] us → ∃ u, us = [u] ∧ RelV x u
 | _, _, .cons r .nil => ⟨_, rfl, r⟩
theorem Vals.two : ∀ {x y : V} {us : List Value}, Vals [x, y] us → ∃ u v, us = [u, v] ∧ RelV x u ∧ RelV y v
 | _, _, _, .cons r (.cons q .nil) => ⟨_, _, rfl, r, q⟩
theorem Vals.dropLast {xs : List V} {us : List Value} (h : Vals xs us) : Vals xs.dropLast us.dropLast := by
 induction h with
 | nil => exact .nil
 | cons r t ih =>
  cases t with
  | nil => exact .nil
  | cons q t' => exact .cons r ih
theorem Vals.reverse {xs : List V} {us : List Value} (h : Vals xs us) : Vals xs.reverse us.reverse := by
 induction h with
 | nil => exact .nil
 | cons r t ih => rw [List.reverse_cons, List.reverse_cons]; exact Vals.append ih (.cons r .nil)
section
variable {X : Cx} {pins : List (Addr × Obj)} {σ : St} {H : Hp} {s : Shared} {l b : Addr} {xs ys zs : List V}
theorem Inv.lset {its its' : List Value} {n : Nat} {f : Array Value → Array Value} {t' : Nat} (I : Inv X pins σ H s) (hH : H l = some (.lst xs))
  (e : s.heap.get? l = some { cls := .type "list", data := .seq its.toArray n }) (hf : f its.toArray = its'.toArray) (hv : Vals ys its') (hz : ys.length ≤ sizeLine) :
  Inv X pins σ (upd H l (.lst ys)) { s with heap := s.heap.update l (Obj.mapSeq f), toks := t' } := by
 have q := PySem.IsL.update e f
 rw [hf] at q
 refine I.write (x := l) (e := l) (by rw [hH]; exact trivial) (.inl rfl) (fun b' u hb hu => (Heap.get?_update_other s.heap (Obj.mapSeq f) (Ne.symm hb)).trans hu) ⟨_, q⟩ ?_
 exact ⟨hz, its', _, hv, q⟩
theorem Inv.lnew {its : List Value} {t' : Nat} (I : Inv X pins σ H s) (hv : Vals ys its) (hz : ys.length ≤ sizeLine) :
  Inv X pins σ (upd H s.heap.objs.size (.lst ys)) { s with heap := s.heap.push { cls := .type "list", data := .seq its.toArray }, toks := t' } :=
 I.laid (fun _ _ q => Heap.get?_push_of_some _ q) (Nat.le_refl _) ⟨hz, its, 0, hv, Heap.get?_push_size _ rfl⟩
theorem Inv.fresh (I : Inv X pins σ H s) : H s.heap.objs.size = none := I.hok.fresh (Nat.le_refl _)
theorem Inv.lstM (I : Inv X pins σ H s) (hH : H l = some (.lst xs)) : xs.length ≤ sizeLine ∧ ∃ (its : List Value) (n : Nat), Vals xs its ∧ xs.length = its.length ∧ s.heap.get? l = some { cls := .type "list", data := .seq its.toArray n } := by
 obtain ⟨z, its, n, r, e⟩ := I.hok l _ hH
 exact ⟨z, its, n, r, r.length, e⟩
theorem notLongL {n : Nat} (h : n ≤ sizeLine) : Builtin.List.listTooLong n = false := by
 unfold Builtin.List.listTooLong
 exact decide_eq_false (by omega)
end
section
variable {X : Cx}
def rAppend : V → List V → Hp → VK → Prop := fun x vs H Q => ∃ l xs y, x = .ref l ∧ vs = [y] ∧ H l = some (.lst xs) ∧ xs.length < sizeLine ∧ Q .non (upd H l (.lst (xs ++ [y])))
theorem mt_append : MtM X "list.append" rAppend := by
 intro pins s σ H x vs v us Q I rx rv h
 obtain ⟨l, xs, y, rfl, rfl, hH, hz, q⟩ := h
 cases rx
 obtain ⟨u, rfl, ru⟩ := rv.one
 obtain ⟨z, its, n, r, hl, e⟩ := I.lstM hH
 refine call_meets F.slot_list_append ⟨_, e, rfl⟩ F.entry_list_append (F.args_list_append_2 _ _) (PySem.list_append l its.toArray n u (by rw [List.size_toArray]; omega)) ⟨e, ?_⟩
 refine ⟨.non, _, I.lset (its' := its ++ [u]) hH e (by simp) (r.append (.cons ru .nil)) ?_, rfl, q⟩
 rw [List.length_append, List.length_singleton]
 omega
def rExtend : V → List V → Hp → VK → Prop := fun x vs H Q => ∃ l b xs zs, x = .ref l ∧ vs = [.ref b] ∧ H l = some (.lst xs) ∧ H b = some (.lst zs) ∧ xs.length + zs.length ≤ sizeLine ∧ Q .non (upd H l (.lst (xs ++ zs)))
theorem mt_extend : MtM X "list.extend" rExtend := by
 intro pins s σ H x vs v us Q I rx rv h
 obtain ⟨l, b, xs, zs, rfl, rfl, hH, hB, hz, q⟩ := h
 cases rx
 obtain ⟨u, rfl, ru⟩ := rv.one
 cases ru
 obtain ⟨z, its, n, r, hl, e⟩ := I.lstM hH
 obtain ⟨z2, its2, n2, r2, hl2, e2⟩ := I.lstM hB
 have hsz : its.toArray.size + its2.toArray.size ≤ sizeLine := by rw [List.size_toArray, List.size_toArray]; omega
 have hlong : ¬ (!its.toArray.isEmpty && Builtin.List.listTooLong (its.toArray.size + its2.toArray.size)) = true := by
  rw [notLongL hsz, Bool.and_false]
  exact Bool.false_ne_true
 refine call_meets F.slot_list_extend ⟨_, e, rfl⟩ F.entry_list_extend (F.args_list_extend_2 _ _)
  (AutoSeq1.list_extend_list_list_0 l its.toArray n b its2.toArray n2 hlong (by rw [List.size_toArray]; omega) (by omega)) ⟨e, e2, ?_⟩
 refine ⟨.non, _, I.lset (its' := its ++ its2) hH e (by simp) (r.append r2) ?_, rfl, q⟩
 rw [List.length_append]
 omega
def rCat : R2 := fun x y H Q => ∃ l b xs zs, x = .ref l ∧ y = .ref b ∧ H l = some (.lst xs) ∧ H b = some (.lst zs) ∧ xs.length + zs.length ≤ sizeLine ∧ ∀ p, H p = none → Q (.ref p) (upd H p (.lst (xs ++ zs)))
theorem op_cat : OpR X (binaryOp .Add) rCat := by
 intro pins s σ H x y v u Q I rx ry h
 obtain ⟨l, b, xs, zs, rfl, rfl, hH, hB, hz, q⟩ := h
 cases rx
 cases ry
 obtain ⟨z, its, n, r, hl, e⟩ := I.lstM hH
 obtain ⟨z2, its2, n2, r2, hl2, e2⟩ := I.lstM hB
 refine PySem.P.add_list e e2 ?_ (by rw [List.size_toArray, List.size_toArray]; omega)
 have ea : its.toArray ++ its2.toArray = (its ++ its2).toArray := by simp
 rw [ea]
 exact ⟨.ref _, _, I.lnew (t' := s.toks) (r.append r2) (by rw [List.length_append]; omega), rfl, q _ I.fresh⟩
end
section
variable {prog : Program} {w : World} {A : Around} {E : Value → Shared → Prop} {s : Shared}
end
section
variable {X : Cx}
end
end L2
namespace Att
open PySem PySem.W PySem.Calls PyProof.Rows
theorem ints_of_wellAll {P : Params} {h : Heap} : ∀ (ns : List Int) (vs : List Value), WellAll P h vs (ns.map WData.int) → IntsAre vs ns := by
 intro ns
 induction ns with
 | nil =>
  intro vs w
  rw [List.map_nil] at w
  cases w
  exact .nil
 | cons n ns ih =>
  intro vs w
  rw [List.map_cons] at w
  cases w with
  | cons a b =>
   cases a
   exact .cons _ _ (ih _ b)
theorem script_of {l : OpenLaw} {n : Nat} (hn : l.most = some n) {P : Params} {h : Heap} {args : List WData} {vals : List Value}
    (hpre : l.row.toRowW.claim.pre args = true) (hwl : WellAll P h vals args) :
    ∃ a vs ns, vals = [Value.ref a] ∧ args = [WData.list (ns.map WData.int)] ∧ h.get? a = some { cls := .type "list", data := .seq vs.toArray } ∧ IntsAre vs ns ∧ ns.length ≤ n := by
  have hsh : WShape.hasAll [] args [.list .int] = true := (pre_splitW hpre).1
  have hc : l.pre.holds [] { args := args } = true := (pre_splitW hpre).2
  obtain ⟨d, r, rfl, h1, h2⟩ := hasAllW_cons hsh
  obtain rfl := hasAllW_nil h2
  obtain ⟨xs, rfl, h3⟩ := hasW_list h1
  obtain ⟨ns, rfl⟩ := items_int h3
  have hlen : ns.length ≤ n := by
    unfold OpenLaw.pre at hc
    have h4 : (WTm.not (.lt (.lit (.int (n : Int))) (.len (.arg 0)))).holds [] { args := [.list (ns.map .int)] } = true := by
      have h4 := (holds_andW hc).1
      rw [hn] at h4
      exact h4
    have h5 := condW_of h4 (w_not (w_lt w_lit (w_len_list (w_arg rfl))))
    rw [List.length_map] at h5
    refine Nat.le_of_not_lt fun q => ?_
    have q' : (n : Int) < ((ns.length : Nat) : Int) := by omega
    first
      | (rw [decide_eq_true q'] at h5; exact absurd h5 (by decide))
      | (simp at h5; omega)
  cases hwl with
  | cons w1 w2 =>
    cases w2
    cases w1 with
    | list ho hall => exact ⟨_, _, ns, rfl, rfl, ho, ints_of_wellAll ns _ hall, hlen⟩
theorem post_true (l : OpenLaw) (args : List WData) : l.row.toRowW.claim.post args (.bool true) args = true :=
 postW_of (r := l.row.toRowW) (X := (true == true))
  (show WShape.has [] (.bool true) .bool = true by first | rfl | decide | simp [WShape.has, WShape.arms, WShape.armsAll])
  (show (WTm.eq .res (.lit (.bool true))).value [] { args := args, res := some (.bool true), after := args } = some (.bool (true == true)) from w_eq_bool (w_res rfl) w_lit) rfl
theorem attach_call {l : OpenLaw} {n : Nat} {q : Program} {loose : List Str} {XP : (Str → Option Value) → Heap → Prop} {YP : World → Heap → Prop} {d : DefRec}
  (hn : l.most = some n) (hdf : d.params.defaults = [])
  (call : ∀ (w : World) (s₀ s₁ : Shared) (mg mb : Str → Option Value) (fa : Addr) (o : Obj) (pm cd doc : Value) (a : Addr) (vs : List Value) (ns : List Int),
   Ground q loose [] XP w s₀ mg mb s₁.heap → YP w s₁.heap →
   s₁.heap.get? fa = some o → o.data = .func (docDef d.name d.params d.body d.scope pm cd doc) → s₁.heap.CodeRec cd d.name → mg d.name = some (.ref fa) →
   s₁.heap.get? a = some { cls := .type "list", data := .seq vs.toArray } → IntsAre vs ns → ns.length ≤ n → s₁.gens = #[] →
   codeAny (model l.prog w) callerA (.call (.ref fa) ⟨[.ref a], []⟩) (fun r s' => r = .ok (.ret (.bool true)) ∧ OldK s₁.heap s'.heap ∧ s'.os = s₁.os ∧ AllBare s'.gens) s₁) :
  WalkO q loose XP YP l.row.toRowW d [] (fun f vs => PySem.call f vs) := by
 intro w s₀ s₁ mg mb G Y fa o pm cd doc dV kV ho hd hcd hD hmg hg args vals as hpre hlay hrd hwl hlo
 obtain rfl : dV = .none := Dflts.none hD hdf
 obtain rfl : kV = .none := Dflts.noKw hD
 obtain ⟨a, vs, ns, rfl, rfl, hobj, hints, hlen⟩ := script_of hn hpre hwl
 refine enter_call (codeAny_mono (call w s₀ s₁ mg mb fa o pm cd doc a vs ns G Y ho (fd_plain hd) hcd hmg hobj hints hlen hg) fun r s' hq => ?_)
 obtain ⟨rfl, h2, h3, h4⟩ := hq
 exact ⟨.inl ⟨.bool true, .bool true, [], rfl, fun _ => rfl, .bool true, post_true l _, fun _ => ⟨List.Pairwise.nil, fun _ hm => (nomatch hm)⟩⟩, h2, h3, h4⟩
section
variable {prog : Program} {w : World} {A : Around} {E : Value → Shared → Prop} {s : Shared} {K : Frag}
end
end Att
namespace L2
open PySem PySem.Spec PyProof.Rows
theorem vals_ints : ∀ {vs : List Value} {ns : List Int}, IntsAre vs ns → Vals (ns.map V.int) vs
 | _, _, .nil => .nil
 | _, _, .cons n t h => .cons ⟨t, rfl⟩ (vals_ints h)
end L2
namespace L2
open PySem PySem.Spec PyProof.Rows
end L2
namespace L2
open PySem PySem.Spec PyProof.Rows
def defArgs (s : Stmt) : Arguments := match s with
 | .FunctionDef _ a _ _ _ _ _ _ _ _ => a
 | _ => { posonlyargs := [], args := [], vararg := none, kwonlyargs := [], kw_defaults := [], kwarg := none, defaults := [] }
def defBody (s : Stmt) : List Stmt := match s with
 | .FunctionDef _ _ b _ _ _ _ _ _ _ => b
 | _ => []
def defScope (s : Stmt) : Scope := match s with
 | .FunctionDef _ _ _ _ _ _ sc _ _ _ => sc
 | _ => { kind := .function, names := [], isGenerator := false, isCoroutine := false }
abbrev CX0 : CXT := fun _ _ _ _ _ _ => False
abbrev E0 : XK := fun _ _ _ => False
theorem pass0 {X : Cx} : Passes CX0 X E0 := fun _ _ _ _ _ _ _ h => h.elim
structure Fun (K : PySem.W.Frag) (x qual : Str) (st : Stmt) (f : Addr) (fd : FuncData) : Prop where
 ex : ∃ (oc : Value) (od : Option Addr) (kV doc pm : Value) (an : Option Addr) (cdv ct : Value) (osl : Array (Option Value)),
  fd = PySem.W.fnOf x qual (defArgs st) (defBody st) (defScope st) .none kV doc pm an cdv ct ∧ K.lookup f = some ⟨oc, od, .func fd, osl⟩ ∧ PySem.W.codeIn K cdv qual = true
 kp : PySem.W.keepIn K (.ref f) = true
section
variable {P : Program} {w : World} {K : PySem.W.Frag} {mg : Str → Option Value} {base : Heap}
theorem Fun.ok {x qual : Str} {st : Stmt} {f : Addr} {fd : FuncData} {N ps : List Str} {k : Nat} {sp : Sp} (F : Fun K x qual st f fd) (S : FnScope N ps (defScope st)) (len : ∀ vs H Q E, sp vs H Q E → vs.length = ps.length)
  (hbody : ∀ (cdv : Value) (A : Around) (outer : List Env) (s : Shared) (H : Hp) (vs : List V) (Q : VK) (E : XK), Room k (A.deeper (envOfC qual (defScope st) s.heap.objs.size f cdv)) → sp vs H Q E →
   ∃ t, PSs (cxOf CX0 P w K mg base N qual (defScope st) f cdv A outer s H E).nox (defBody st) t ∧ t { nx := fun _ H' => Q .non H', rt := Q } (start N vs) H) : FnOk P w K mg base CX0 (k + 1) f fd ps sp := by
 obtain ⟨oc, od, kV, doc, pm, an, cdv, ct, osl, rfl, lk, hcd⟩ := F.ex
 refine fn_of lk hcd S len fun A outer s H vs Q E hr hsp => ?_
 obtain ⟨t, h, q⟩ := hbody cdv A outer s H vs Q E hr hsp
 exact ⟨t, h.nox, q⟩
theorem Fun.binds {x qual : Str} {st : Stmt} {f : Addr} {fd : FuncData} {ps : List Str} (F : Fun K x qual st f fd)
  (h : ∀ (kV doc pm : Value) (an : Option Addr) (cdv ct : Value) (us : List Value), us.length = ps.length → bindArgs (PySem.W.fnOf x qual (defArgs st) (defBody st) (defScope st) .none kV doc pm an cdv ct) ⟨us, []⟩ = pure (ps.zip us)) : Binds K fd ps [] := by
 obtain ⟨oc, od, kV, doc, pm, an, cdv, ct, osl, rfl, lk, hcd⟩ := F.ex
 exact .all (h kV doc pm an cdv ct)
theorem fun_mk {x qual : Str} {st : Stmt} {f : Addr} {oc : Value} {od an : Option Addr} {osl : Array (Option Value)} {kV doc pm cdv ct : Value} (l : K.lookup f = some ⟨oc, od, .func (PySem.W.fnOf x qual (defArgs st) (defBody st) (defScope st) .none kV doc pm an cdv ct), osl⟩)
  (c : PySem.W.codeIn K cdv qual = true) (k : PySem.W.keepIn K (.ref f) = true) : Fun K x qual st f (PySem.W.fnOf x qual (defArgs st) (defBody st) (defScope st) .none kV doc pm an cdv ct) := ⟨⟨oc, od, kV, doc, pm, an, cdv, ct, osl, rfl, l, c⟩, k⟩
end
theorem small1000 {n : Nat} (h : n ≤ 1000) : n < sizeLine := Nat.lt_of_le_of_lt h (by decide)
section
variable {X : Cx}
end
def Same (H H' : Hp) : Prop := ∀ b o, H b = some o → H' b = some o
theorem Same.refl (H : Hp) : Same H H := fun _ _ h => h
theorem Same.trans {H H1 H2 : Hp} (a : Same H H1) (b : Same H1 H2) : Same H H2 := fun c o h => b c o (a c o h)
theorem Same.free {H H' : Hp} (e : Same H H') {l : Addr} (h : H' l = Option.none) : H l = Option.none := by
 cases q : H l with
 | none => rfl
 | some o =>
  rw [e l o q] at h
  cases h
theorem Same.seq {K : PySem.W.Frag} {H H' : Hp} {a : Addr} {xs : List V} (e : Same H H') (h : SqL K H a xs) : SqL K H' a xs := by
 rcases h with (h | ⟨o, h⟩) | h
 ·exact .inl (.inl (e _ _ h))
 ·exact .inl (.inr ⟨o, e _ _ h⟩)
 ·exact .inr h
end L2

end

section
namespace L2
open PySem PySem.Spec PyProof.Rows
def clo (cs : List (Str × Addr)) : List (Str × NameKind) → List (Str × Addr) → List (Str × Addr)
  | [], acc => acc
  | (n, k) :: r, acc => if k == .free then (match cs.lookup n with | some a => clo cs r ((n, a) :: acc) | none => clo cs r acc) else clo cs r acc
theorem closure_eq {env : Env} : ∀ (names : List (Str × NameKind)) (acc : List (Str × Addr)), (∀ y ∈ names, y.2 = .free → ∃ c, env.cells.lookup y.1 = some c) →
    (forIn names acc (fun (p : Str × NameKind) (cs : List (Str × Addr)) => do
      if (p.2 == NameKind.free) = true then do
        let a ← cellOf env p.1
        pure (ForInStep.yield ((p.1, a) :: cs))
      else pure (ForInStep.yield cs)) : Sem (List (Str × Addr))) = pure (clo env.cells names acc)
  | [], acc, _ => rfl
  | (n, k) :: r, acc, h => by
    rw [List.forIn_cons]
    by_cases hk : (k == NameKind.free) = true
    · obtain ⟨c, hc⟩ := h (n, k) List.mem_cons_self (by simpa using hk)
      have hc' : env.cells.lookup n = some c := hc
      simp only [hk, if_true, cellOf, hc', clo]
      exact closure_eq r _ fun y hy => h y (List.mem_cons_of_mem _ hy)
    · have hk' : (k == NameKind.free) = false := by simpa using hk
      simp only [hk', Bool.false_eq_true, if_false, clo]
      exact closure_eq r _ fun y hy => h y (List.mem_cons_of_mem _ hy)
theorem closureFor_eq {env : Env} {scope : Scope} (h : ∀ y ∈ scope.names, y.2 = .free → ∃ c, env.cells.lookup y.1 = some c) : closureFor scope env = pure (clo env.cells scope.names []) := by
 have q := closure_eq (env := env) scope.names [] h
 unfold closureFor
 simp only []
 have e : (forIn scope.names ([] : List (Str × Addr)) (fun (p : Str × NameKind) (cs : List (Str × Addr)) => do
   if (p.2 == NameKind.free) = true then do
    let a ← cellOf env p.1
    pure (ForInStep.yield ((p.1, a) :: cs))
   else pure (ForInStep.yield cs)) : Sem (List (Str × Addr))) >>= (fun cs => pure cs) = pure (clo env.cells scope.names []) := by rw [q]; rfl
 exact e
end L2

end

section
namespace L2
open PySem PySem.Spec PyProof.Rows
theorem clo_look {cs : List (Str × Addr)} {x : Str} {c : Addr} : ∀ (names : List (Str × NameKind)) (acc : List (Str × Addr)), (clo cs names acc).lookup x = some c → cs.lookup x = some c ∨ acc.lookup x = some c
  | [], _, h => .inr h
  | (n, k) :: r, acc, h => by
    unfold clo at h
    split at h
    · cases hc : cs.lookup n with
      | none => rw [hc] at h; exact clo_look r acc h
      | some a =>
        rw [hc] at h
        rcases clo_look r _ h with q | q
        · exact .inl q
        · rw [List.lookup_cons] at q
          cases hx : x == n with
          | true => rw [hx] at q; rw [beq_iff_eq.mp hx, hc]; exact .inl q
          | false => rw [hx] at q; exact .inr q
    · exact clo_look r acc h
theorem clo_keep {cs : List (Str × Addr)} {x : Str} {c : Addr} (hc : cs.lookup x = some c) : ∀ (names : List (Str × NameKind)) (acc : List (Str × Addr)), acc.lookup x = some c → (clo cs names acc).lookup x = some c
  | [], _, h => h
  | (n, k) :: r, acc, h => by
    unfold clo
    split
    · cases hn : cs.lookup n with
      | none => exact clo_keep hc r acc h
      | some a =>
        refine clo_keep hc r _ ?_
        rw [List.lookup_cons]
        cases hx : x == n with
        | true => rw [beq_iff_eq.mp hx, hn] at hc; exact hc
        | false => exact h
    · exact clo_keep hc r acc h
theorem clo_has {cs : List (Str × Addr)} {x : Str} {c : Addr} (hc : cs.lookup x = some c) : ∀ (names : List (Str × NameKind)) (acc : List (Str × Addr)), (x, NameKind.free) ∈ names → (clo cs names acc).lookup x = some c
  | [], _, h => nomatch h
  | (n, k) :: r, acc, h => by
    unfold clo
    rcases List.mem_cons.mp h with e | h
    · cases e
      simp only [beq_self_eq_true, if_true, hc]
      exact clo_keep hc r _ (by simp [List.lookup_cons])
    · split
      · cases hn : cs.lookup n with
        | none => exact clo_has hc r acc h
        | some a => exact clo_has hc r _ h
      · exact clo_has hc r acc h
theorem from_look {x : Str} {c : Addr} : ∀ (names : List (Str × NameKind)) (n : Nat) (acc : List (Str × Addr)), (cellsFrom n names acc).lookup x = some c → n ≤ c ∨ acc.lookup x = some c
  | [], _, _, h => .inr h
  | (y, k) :: r, n, acc, h => by
    unfold cellsFrom at h
    split at h
    · rcases from_look r (n + 1) _ h with q | q
      · exact .inl (by omega)
      · rw [List.lookup_cons] at q
        cases hx : x == y with
        | true => rw [hx] at q; cases q; exact .inl (Nat.le_refl _)
        | false => rw [hx] at q; exact .inr q
    · exact from_look r n acc h
theorem from_own {x : Str} {c : Addr} {lo : Nat} : ∀ (names : List (Str × NameKind)) (n : Nat) (acc : List (Str × Addr)), lo ≤ n → ((x, NameKind.cell) ∈ names ∨ ∀ c, acc.lookup x = some c → lo ≤ c) → (cellsFrom n names acc).lookup x = some c → lo ≤ c
  | [], _, _, _, hm, h => hm.elim (fun z => nomatch z) fun z => z c h
  | (y, k) :: r, n, acc, hl, hm, h => by
    unfold cellsFrom at h
    split at h
    · rename_i hk
      refine from_own r (n + 1) _ (by omega) ?_ h
      by_cases hx : x = y
      · refine .inr fun c' q => ?_
        rw [List.lookup_cons, hx, beq_self_eq_true] at q
        cases q; exact hl
      · rcases hm with hm | hm
        · rcases List.mem_cons.mp hm with e | hm
          · cases e; exact absurd rfl hx
          · exact .inl hm
        · refine .inr fun c' q => hm c' ?_
          rw [List.lookup_cons, beq_eq_false_iff_ne.mpr hx] at q
          exact q
    · rename_i hk
      refine from_own r n acc hl ?_ h
      rcases hm with hm | hm
      · rcases List.mem_cons.mp hm with e | hm
        · cases e; exact absurd rfl hk
        · exact .inl hm
      · exact .inr hm
theorem from_keep {x : Str} {c : Addr} : ∀ (names : List (Str × NameKind)) (n : Nat) (acc : List (Str × Addr)), (x, NameKind.cell) ∉ names → acc.lookup x = some c → (cellsFrom n names acc).lookup x = some c
  | [], _, _, _, h => h
  | (y, k) :: r, n, acc, hm, h => by
    have hm' : (x, NameKind.cell) ∉ r := fun z => hm (List.mem_cons_of_mem _ z)
    unfold cellsFrom
    split
    · rename_i hk
      refine from_keep r (n + 1) _ hm' ?_
      rw [List.lookup_cons]
      cases hx : x == y with
      | true =>
        have e1 : k = NameKind.cell := by simpa using hk
        exact absurd (by rw [beq_iff_eq.mp hx, e1]; exact List.mem_cons_self) hm
      | false => exact h
    · exact from_keep r n acc hm' h
theorem from_has {x : Str} : ∀ (names : List (Str × NameKind)) (n : Nat) (acc : List (Str × Addr)), ((x, NameKind.cell) ∈ names ∨ ∃ c, acc.lookup x = some c) → ∃ c, (cellsFrom n names acc).lookup x = some c
  | [], _, _, hm => hm.elim (fun z => nomatch z) fun z => z
  | (y, k) :: r, n, acc, hm => by
    unfold cellsFrom
    split
    · rename_i hk
      refine from_has r (n + 1) _ ?_
      by_cases hx : x = y
      · exact .inr ⟨n, by rw [hx, List.lookup_cons, beq_self_eq_true]⟩
      · rcases hm with hm | ⟨c, hm⟩
        · rcases List.mem_cons.mp hm with e | hm
          · cases e; exact absurd rfl hx
          · exact .inl hm
        · exact .inr ⟨c, by rw [List.lookup_cons, beq_eq_false_iff_ne.mpr hx]; exact hm⟩
    · rename_i hk
      refine from_has r n acc ?_
      rcases hm with hm | hm
      · rcases List.mem_cons.mp hm with e | hm
        · cases e; exact absurd rfl hk
        · exact .inl hm
      · exact .inr hm
theorem from_inj : ∀ (names : List (Str × NameKind)) (n : Nat) (acc : List (Str × Addr)), (∀ x c, acc.lookup x = some c → c < n) → (∀ x y c, acc.lookup x = some c → acc.lookup y = some c → x = y) →
    ∀ x y c, (cellsFrom n names acc).lookup x = some c → (cellsFrom n names acc).lookup y = some c → x = y
  | [], _, _, _, hi => hi
  | (z, k) :: r, n, acc, hb, hi => by
    unfold cellsFrom
    split
    · refine from_inj r (n + 1) _ (fun x c q => ?_) fun x y c q q' => ?_
      · rw [List.lookup_cons] at q
        cases hx : x == z with
        | true => rw [hx] at q; cases q; exact Nat.lt_succ_self _
        | false => rw [hx] at q; exact Nat.lt_succ_of_lt (hb x c q)
      · rw [List.lookup_cons] at q q'
        cases hx : x == z with
        | true =>
          rw [hx] at q; cases q
          cases hy : y == z with
          | true => rw [beq_iff_eq.mp hx, beq_iff_eq.mp hy]
          | false => rw [hy] at q'; exact absurd (hb y _ q') (Nat.lt_irrefl _)
        | false =>
          rw [hx] at q
          cases hy : y == z with
          | true => rw [hy] at q'; cases q'; exact absurd (hb x _ q) (Nat.lt_irrefl _)
          | false => rw [hy] at q'; exact hi x y c q q'
    · exact from_inj r n acc hb hi
theorem push_cells : ∀ (names : List (Str × NameKind)) (h : Heap) (acc : List (Str × Addr)) {x : Str} {c : Addr}, (cellsFrom h.objs.size names acc).lookup x = some c → (pushCells h names).IsCell c none ∨ acc.lookup x = some c
  | [], _, _, _, _, q => .inr q
  | (z, k) :: r, h, acc, x, c, q => by
    unfold cellsFrom at q
    unfold pushCells
    split at q
    · rename_i hk
      rw [if_pos hk]
      have e : (h.push { cls := .type "cell", data := .cell none }).objs.size = h.objs.size + 1 := Heap.size_push ..
      rw [← e] at q
      rcases push_cells r _ _ q with q | q
      · exact .inl q
      · rw [List.lookup_cons] at q
        cases hx : x == z with
        | true =>
          rw [hx] at q; cases q
          refine .inl ?_
          have w : (h.push { cls := .type "cell", data := .cell none }).IsCell h.objs.size none := ⟨_, Heap.get?_push_size _ rfl, rfl⟩
          exact w.keeps (pushCells_keeps r _)
        | false => rw [hx] at q; exact .inr q
    · rename_i hk
      rw [if_neg hk]
      exact push_cells r h acc q
def blockEnv (scope : Scope) (env : Env) (C : Addr) : Env :=
  { scope := relabel scope env, locals := C, globals := env.globals, cells := cellsFrom (C + 1) scope.names (clo env.cells scope.names []), qual := env.qual, func := none, code := env.code, frame := env.frame, builtins := env.builtins }
theorem newBlock {M : Model} {A : Around} {E : Value → Shared → Prop} {s : Shared} {scope : Scope} {env : Env} {cl : List (Str × Addr)} {Q : Env → Shared → Prop}
    (h : Q { scope := scope, locals := s.heap.objs.size, globals := env.globals, cells := cellsFrom (s.heap.objs.size + 1) scope.names cl, qual := env.qual, func := none, code := env.code, frame := env.frame, builtins := env.builtins }
      { s with heap := pushCells (s.heap.push { cls := .type "dict", data := .dict #[] }) scope.names }) :
    wpAny M A (newFunctionEnv scope env.globals cl [] env.qual none .none (some env)) Q E s := by
  have top : ({ s with heap := s.heap.push { cls := .type "dict", data := .dict #[] } } : Shared).heap.objs.size = s.heap.objs.size + 1 := Heap.size_push ..
  rw [← top] at h
  unfold newFunctionEnv
  simp only [Option.isSome_some, if_true]
  exact wpAny_bind (wpAny_alloc (wpAny_bind (wpAny_layCells _ (fun n k cs => by by_cases c : (k == NameKind.cell) = true <;> simp [c]) _ _ _ _ (wpAny_bind (wpAny_pure (wpAny_pure h))))))
structure BlockScope (sc : Scope) (N : List Str) (scope : Scope) (N' : List Str) (cap : List (Option Nat)) : Prop where
 kind : scope.kind = .function
 free : ∀ y ∈ scope.names, y.2 = .free → sc.names.lookup y.1 = some .cell ∨ sc.names.lookup y.1 = some .free
 len : cap.length = N'.length
 capt : ∀ (i j : Nat), cap[i]? = some (some j) → ∃ x : Str, N'[i]? = some x ∧ N[j]? = some x ∧ (x, NameKind.free) ∈ scope.names ∧ (x, NameKind.cell) ∉ scope.names
 names : ∀ y ∈ scope.names, y.2 = .local → scope.names.lookup y.1 = some .local
 own : ∀ y ∈ scope.names, scope.names.lookup y.1 = some y.2
def blockOk (sc : Scope) (N : List Str) (scope : Scope) (N' : List Str) (cap : List (Option Nat)) : Bool :=
  scope.kind == .function && (scope.names.all fun y => y.2 != .free || sc.names.lookup y.1 == some .cell || sc.names.lookup y.1 == some .free) && cap.length == N'.length &&
    ((List.range cap.length).all fun i => match cap[i]? with
      | some (some j) => (match N'[i]?, N[j]? with
        | some x, some y => x == y && scope.names.any (fun z => z.1 == x && z.2 == .free) && scope.names.all (fun z => !(z.1 == x && z.2 == .cell))
        | _, _ => false)
      | _ => true) && scope.names.all fun y => scope.names.lookup y.1 == some y.2
theorem BlockScope.of {sc : Scope} {N : List Str} {scope : Scope} {N' : List Str} {cap : List (Option Nat)} (h : blockOk sc N scope N' cap = true) : BlockScope sc N scope N' cap := by
 unfold blockOk at h
 simp only [Bool.and_eq_true] at h
 obtain ⟨⟨⟨⟨h1, h2⟩, h3⟩, h4⟩, h5⟩ := h
 have own : ∀ y ∈ scope.names, scope.names.lookup y.1 = some y.2 := fun y hy => by
  have := List.all_eq_true.mp h5 y hy
  simpa using this
 refine ⟨by simpa using h1, fun y hy hf => ?_, by simpa using h3, fun i j e => ?_, fun y hy hl => by rw [own y hy, hl], own⟩
 ·have := List.all_eq_true.mp h2 y hy
  rw [hf] at this
  simpa using this
 ·have hi : i < cap.length := (List.getElem?_eq_some_iff.mp e).1
  have := List.all_eq_true.mp h4 i (List.mem_range.mpr hi)
  rw [e] at this
  dsimp only at this
  cases hx : N'[i]? with
  | none => rw [hx] at this; simp at this
  | some x =>
   cases hy : N[j]? with
   | none => rw [hx, hy] at this; simp at this
   | some y =>
    rw [hx, hy] at this
    simp only [Bool.and_eq_true] at this
    obtain ⟨⟨t1, t2⟩, t3⟩ := this
    have e1 : x = y := by simpa using t1
    subst e1
    obtain ⟨z, hz, t⟩ := List.any_eq_true.mp t2
    simp only [Bool.and_eq_true] at t
    have z1 : z.1 = x := by simpa using t.1
    have z2 : z.2 = .free := by simpa using t.2
    have ez : z = (x, NameKind.free) := by rw [← z1, ← z2]
    refine ⟨x, rfl, rfl, ez ▸ hz, fun hm => ?_⟩
    have := List.all_eq_true.mp t3 _ hm
    simp at this
def capOf (cap : List (Option Nat)) (σ : St) : St := cap.map fun o => match o with | some j => (match σ[j]? with | some v => v | none => none) | none => none
end L2

end

section
namespace L2
open PySem PySem.Spec PyProof.Rows
def PTs (X : Cx) (cs : List Expr) (t : TT) : Prop :=
 ∀ (pins : List (Addr × Obj)) (s : Shared) (σ : St) (H : Hp) (Q : Bool → Hp → Prop), Inv X pins σ H s → t σ H Q →
  wpAny (model X.prog X.w) X.A (forIn cs true fun c r => if r = true then do let ok ← isTrue c X.env (eval c X.env); pure (ForInStep.yield ok) else pure (ForInStep.yield r)) (TP X pins σ Q) X.xe s
def tAlways : TT := fun _ H Q => Q true H
theorem pts_nil {X : Cx} : PTs X [] tAlways := fun _ _ σ H Q I h => wpAny_tests_nil ⟨H, I, h⟩
theorem pts_one {X : Cx} {c : Expr} {t : TT} (h : PT X c t) : PTs X [c] t := fun pins s σ H Q I q => wpAny_tests_one (h pins s σ H Q I q)
def blockCx (X : Cx) (N' : List Str) (scope : Scope) (s : Shared) (H : Hp) (ex : List Addr) (C : Addr) : Cx :=
  { X with N := N', s₀ := s, H₀ := H, env := blockEnv scope X.env C, outer := X.stack, ex := ex, fn := fun x => scope.names.any fun z => z.1 == x && z.2 == .cell, pn := [], xe := fun _ _ => False }
theorem lookup_relabel {env : Env} {x : Str} : ∀ (names : List (Str × NameKind)), (names.map fun (n, k) => if (k == NameKind.free && env.scope.kind == .function && env.kindOf n == some .cell) then (n, NameKind.cell) else (n, k)).lookup x =
    (names.lookup x).map fun k => if (k == NameKind.free && env.scope.kind == .function && env.kindOf x == some .cell) then NameKind.cell else k
  | [] => rfl
  | (n, k) :: r => by
    have ih := lookup_relabel (env := env) (x := x) r
    show List.lookup x ((if (k == NameKind.free && env.scope.kind == .function && env.kindOf n == some .cell) = true then (n, NameKind.cell) else (n, k)) :: _) = _
    cases hx : x == n with
    | true =>
      have e : x = n := beq_iff_eq.mp hx
      subst e
      split <;> simp_all [List.lookup_cons]
    | false =>
      have e : (List.lookup x ((n, k) :: r)) = r.lookup x := by rw [List.lookup_cons, hx]
      rw [e, ← ih]
      split <;> simp [List.lookup_cons, hx]
section
variable {X : Cx} {pins : List (Addr × Obj)} {σ : St} {H : Hp} {s : Shared} {scope : Scope} {N' : List Str} {cap : List (Option Nat)} {fp : List Addr}
theorem block_ok (I : Inv X pins σ H s) (B : BlockScope X.env.scope X.N scope N' cap) (hf : ∀ b ∈ fp, FpOk X pins H b) (hlt : ∀ b ∈ fp, b < s.heap.objs.size) {C : Addr} (hC : s.heap.objs.size ≤ C) :
  (blockCx X N' scope s H fp C).Ok := by
 have clt : ∀ x c, X.env.cells.lookup x = some c → c < s.heap.objs.size := fun x c e => let ⟨_, q⟩ := I.cell x c e; q.lt
 have acc : ∀ x c, (clo X.env.cells scope.names []).lookup x = some c → X.env.cells.lookup x = some c := fun x c e => (clo_look _ _ e).elim id fun z => nomatch z
 refine ⟨I.ok.mod, B.kind, I.ok.glob, I.ok.blt, hC, fun x y c h1 h2 => ?_, fun x hx => ?_, fun x c hx h => ?_, I.ok.hd, I.ok.frames, .inl rfl, fun b hb => ⟨?_, fun x c h e => ?_⟩, I.bs, Nat.le_trans I.ok.bsz I.sz, fun b o e hb => ?_, fun b hb z => ?_, I.stack, I.stkFree⟩
 ·exact from_inj scope.names (C + 1) _ (fun x c e => Nat.lt_succ_of_lt (Nat.lt_of_lt_of_le (clt x c (acc x c e)) hC)) (fun x y c e e' => I.ok.inj x y c (acc x c e) (acc y c e')) x y c h1 h2
 ·have hx' : (relabel scope X.env).names.lookup x = some .cell ∨ (relabel scope X.env).names.lookup x = some .free := hx
  have hl : (scope.names.lookup x).isSome = true := by
   unfold relabel at hx'
   rw [lookup_relabel] at hx'
   cases q : scope.names.lookup x with
   | none => rw [q] at hx'; rcases hx' with z | z <;> cases z
   | some k => rfl
  obtain ⟨k, hk⟩ := Option.isSome_iff_exists.mp hl
  have hm := PySem.mem_of_lookup hk
  refine from_has scope.names (C + 1) _ ?_
  cases k with
  | cell => exact .inl hm
  | free =>
   refine .inr ?_
   obtain ⟨c, hc⟩ := I.ok.has x (B.free _ hm rfl)
   exact ⟨c, clo_has hc _ _ hm⟩
  | _ =>
   unfold relabel at hx'
   rw [lookup_relabel, hk] at hx'
   rcases hx' with z | z <;> simp at z
 ·have hx' : (scope.names.any fun z => z.1 == x && z.2 == .cell) = true := hx
  obtain ⟨z, hz, t⟩ := List.any_eq_true.mp hx'
  simp only [Bool.and_eq_true] at t
  have z1 : z.1 = x := by simpa using t.1
  have z2 : z.2 = .cell := by simpa using t.2
  have ez : z = (x, NameKind.cell) := by rw [← z1, ← z2]
  have := from_own (lo := C + 1) scope.names (C + 1) _ (Nat.le_refl _) (.inl (ez ▸ hz)) h
  exact Nat.le_trans hC (Nat.le_of_succ_le this)
 ·exact Nat.ne_of_lt (Nat.lt_of_lt_of_le (hlt b hb) hC)
 ·rcases from_look scope.names (C + 1) _ h with q | q
  ·have := hlt b hb
   rw [← e] at this
   exact absurd (Nat.lt_of_lt_of_le this (Nat.le_trans hC (Nat.le_of_succ_le q))) (Nat.lt_irrefl _)
  ·exact (hf b hb).2.2.2.2.1 x c (acc x c q) e
 ·obtain ⟨_, _, _, f3, _⟩ := hf b hb
  rcases f3 with f3 | f3
  ·exact I.ok.noex b o e f3
  ·exact absurd (Nat.lt_of_lt_of_le (Heap.lt_size e) (Nat.le_trans I.ok.bsz f3)) (Nat.lt_irrefl _)
 ·obtain ⟨_, f1, f2, _⟩ := hf b hb
  rcases List.mem_cons.mp (I.stkSub b z) with q | q
  ·exact f1 q
  ·exact f2 q
theorem block_start (I : Inv X pins σ H s) (B : BlockScope X.env.scope X.N scope N' cap) (hf : ∀ b ∈ fp, FpOk X pins H b) (hlt : ∀ b ∈ fp, b < s.heap.objs.size) {h3 : Heap} (hk : ∀ b o, s.heap.get? b = some o → h3.get? b = some o) (hsz : s.heap.objs.size ≤ h3.objs.size) :
  Inv (blockCx X N' scope s H fp h3.objs.size) [] (capOf cap σ) H { s with heap := pushCells (h3.push { cls := .type "dict", data := .dict #[] }) scope.names } := by
 have acc : ∀ x c, (clo X.env.cells scope.names []).lookup x = some c → X.env.cells.lookup x = some c := fun x c e => (clo_look _ _ e).elim id fun z => nomatch z
 have hk3 : ∀ b o, h3.get? b = some o → (pushCells (h3.push { cls := .type "dict", data := .dict #[] }) scope.names).get? b = some o := fun b o e => pushCells_keeps _ _ b o (Heap.get?_push_of_some _ e)
 have hk4 : ∀ b o, s.heap.get? b = some o → (pushCells (h3.push { cls := .type "dict", data := .dict #[] }) scope.names).get? b = some o := fun b o e => hk3 b o (hk b o e)
 refine ⟨block_ok I B hf hlt hsz, rfl, I.bare, Un.kept hk4, ⟨fun _ => none, (Heap.Ns.new h3 (.type "dict")).keeps (pushCells_keeps _ _), fun i x v h1 h2 h4 => ?_⟩, fun x c h => ?_, ?_, fun x c h => ?_, fun p hp => absurd (show p ∈ ([] : List (Addr × Obj)) from hp) (by simp), I.hok.kept hk4, ?_⟩
 ·have h2' : (capOf cap σ)[i]? = some (some v) := h2
  unfold capOf at h2'
  rw [List.getElem?_map] at h2'
  cases q : cap[i]? with
  | none => rw [q] at h2'; cases h2'
  | some o =>
   rw [q] at h2'
   cases o with
   | none => exact nomatch Option.some.inj h2'
   | some j =>
    have h2'' : (match σ[j]? with | some v => v | none => none) = some v := Option.some.inj h2'
    cases qs : σ[j]? with
    | none => rw [qs] at h2''; cases h2''
    | some v' =>
     rw [qs] at h2''
     have hs : σ[j]? = some (some v) := by rw [qs]; exact congrArg some h2''
     obtain ⟨x', e1, e2, e3, e4⟩ := B.capt i j q
     have h1' : N'[i]? = some x := h1
     rw [h1'] at e1; cases e1
     have hcf := B.free _ e3 rfl
     obtain ⟨m, hn, hl⟩ := I.loc
     obtain ⟨u, ru, lk⟩ := hl j x v e2 hs (hcf.elim (fun z => .inr (.inl z)) fun z => .inr (.inr z))
     refine ⟨u, ru, ?_⟩
     rcases lk with ⟨lk, _⟩ | ⟨_, c, hc, ic⟩
     ·have lk' : X.env.scope.names.lookup x = some .local := lk
      have hcf' : X.env.scope.names.lookup x = some .cell ∨ X.env.scope.names.lookup x = some .free := hcf
      rw [lk'] at hcf'; rcases hcf' with z | z <;> cases z
     ·refine .inr ⟨?_, c, from_keep _ _ _ e4 (clo_has hc _ _ e3), ic.keeps hk4⟩
      have : (relabel scope X.env).names.lookup x = some .cell ∨ (relabel scope X.env).names.lookup x = some .free := by
       unfold relabel
       rw [lookup_relabel, B.own _ e3]
       dsimp only [Option.map]
       split
       ·exact .inl rfl
       ·exact .inr rfl
      exact this
 ·have h' : (cellsFrom (h3.objs.size + 1) scope.names (clo X.env.cells scope.names [])).lookup x = some c := h
  have e : (h3.push { cls := .type "dict", data := .dict #[] }).objs.size = h3.objs.size + 1 := Heap.size_push ..
  rw [← e] at h'
  rcases push_cells _ _ _ h' with q | q
  ·exact ⟨_, q⟩
  ·obtain ⟨v, z⟩ := I.cell x c (acc x c q)
   exact ⟨v, z.keeps hk4⟩
 ·exact I.hok.fresh hsz
 ·rcases from_look scope.names (h3.objs.size + 1) _ h with q | q
  ·exact I.hok.fresh (Nat.le_trans hsz (Nat.le_of_succ_le q))
  ·exact I.freeC x c (acc x c q)
 ·show (capOf cap σ).length = N'.length
  unfold capOf
  rw [List.length_map]
  exact B.len
end
end L2

end

section
namespace L2
open PySem PySem.Spec PyProof.Rows
def Keep : St → St → Prop
 | [], [] => True
 | none :: r, _ :: r' => Keep r r'
 | some v :: r, o :: r' => o = some v ∧ Keep r r'
 | _, _ => False
theorem Keep.len : ∀ {a b : St}, Keep a b → a.length = b.length
 | [], [], _ => rfl
 | none :: r, _ :: r', h => by have h' : Keep r r' := h; simp [Keep.len h']
 | some v :: r, o :: r', h => by have h' : o = some v ∧ Keep r r' := h; simp [Keep.len h'.2]
theorem Keep.get : ∀ {a b : St} {i : Nat} {v : V}, Keep a b → a[i]? = some (some v) → b[i]? = some (some v)
 | [], [], _, _, _, e => by simp at e
 | none :: r, _ :: r', 0, v, h, e => by simp at e
 | none :: r, _ :: r', i + 1, v, h, e => by
  have h' : Keep r r' := h
  simpa using Keep.get (i := i) h' (by simpa using e)
 | some v :: r, o :: r', 0, w, h, e => by
  have h' : o = some v ∧ Keep r r' := h
  simp at e
  simp [h'.1, e]
 | some v :: r, o :: r', i + 1, w, h, e => by
  have h' : o = some v ∧ Keep r r' := h
  simpa using Keep.get (i := i) h'.2 (by simpa using e)
def br (c : Bool) (A B : Prop) : Prop := (c = true → A) ∧ (c = false → B)
def tComp (wi : TI) (cap : List (Option Nat)) (g : TG) (tt : TT) (te : TE) : St → Hp → (List V → Hp → Prop) → Prop := fun σ H Q => wi σ H fun J H1 =>
 ∃ W : Nat → Nat → List V → Hp → Prop, (∃ m, W 0 m [] H1) ∧ ∀ i m ys H, W i m ys H →
  (J.stop i H ∧ Q ys H) ∨
  (J.go i H ∧ ys.length < sizeLine ∧ ∃ N : List V → Hp → Prop, (∀ ys' H', N ys' H' → ∃ m', m' < m ∧ W (i + 1) m' ys' H') ∧ ∀ x H', J.yld i H x H' → g x (capOf cap σ) H' fun σ2 H2 => Keep (capOf cap σ) σ2 ∧ tt σ2 H2 fun b H3 =>
   br b (te σ2 H3 fun y H4 => N (ys ++ [y]) H4) (N ys H3))
structure Left (X : Cx) (pins : List (Addr × Obj)) (C : Addr) (H : Hp) (s : Shared) : Prop where
 ns : ∃ m, s.heap.Ns C m
 free : H C = none
 loc : C ≠ X.env.locals
 sz : X.s₀.heap.objs.size ≤ C
 cell : ∀ x c, X.env.cells.lookup x = some c → c ≠ C
 pin : ∀ p ∈ X.pn ++ pins, p.1 ≠ C
abbrev TB := St → List V → Hp → (List V → Hp → Prop) → Prop
def turnB (E : Expr) (d : Nat) (tg it : Expr) (ifs : List Expr) (body : Sem PySem.Fin) (itv acc : Value) (env : Env) : Sem PySem.Fin := do
  standAt it.pos
  let r ← pyNext itv
  match r with
   | none => pure (Fin.done Flow.next)
   | some v => do
    letOwnedTupleGo tg itv v
    assign tg env v
    let ok ← forIn ifs true fun c r => if r = true then do let ok ← PySem.isTrue c env (eval c env); pure (ForInStep.yield ok) else pure (ForInStep.yield r)
    if ok = true then body else again (Code.compLoop E d itv acc env)
def bodyL (E : Expr) (d : Nat) (elt : Expr) (itv acc : Value) (env : Env) : Sem PySem.Fin := do
  let _ ← (do
   let x ← eval elt env
   let _ ← call (Value.builtin "list.append") [acc, x]
   pure ())
  again (Code.compLoop E d itv acc env)
abbrev loopsTo (M : Model) (A : Around) (E : Expr) (d : Nat) (itv acc : Value) (env : Env) (body : Sem PySem.Fin) (P : Shared → Prop) (s : Shared) : Prop := wpAny M A body (fun fin s' => fin = .again (.compLoop E d itv acc env) ∧ P s') (fun _ _ => False) s
section
variable {prog : Program} {w : World} {A : Around} {R : Result → Shared → Prop} {s : Shared} {e0 tg it elt it2 : Expr} {gs : List Comprehension} {ifs : List Expr} {sc : Scope} {ps : Pos} {itv acc : Value} {env : Env} {d : Nat} {body : Sem PySem.Fin} {P : Shared → Prop}
theorem bodyL_ok {E : Expr} (h : wpAny (model prog w) A (eval elt env) (fun x s₄ => wpAny (model prog w) A (call (.builtin "list.append") [acc, x]) (fun _ s₅ => P s₅) (fun _ _ => False) s₄) (fun _ _ => False) s) : loopsTo (model prog w) A E d itv acc env (bodyL E d elt itv acc env) P s :=
 wpAny_bind (wpAny_bind (wpAny_mono h (fun x s₄ h₄ => wpAny_bind (wpAny_mono h₄ (fun _ s₅ h₅ => wpAny_pure (wpAny_pure ⟨rfl, h₅⟩)) fun _ _ h' => h'.elim)) fun _ _ h' => h'.elim))
theorem loopB (ht : compTurn (.ListComp e0 gs sc ps) d itv acc env = turnB (.ListComp e0 gs sc ps) d tg it ifs body itv acc env) (I : Nat → Shared → Prop)
  (turn : ∀ n s, I n s → wpAny (model prog w) A (pyNext itv) (fun r s₁ => match r with
   | none => R (.ok .next) s₁
   | some v => wpAny (model prog w) A (letOwnedTupleGo tg itv v) (fun _ s₁' => wpAny (model prog w) A (assign tg env v) (fun _ s₂ =>
     wpAny (model prog w) A (forIn ifs true fun c r => if r = true then do let ok ← isTrue c env (eval c env); pure (ForInStep.yield ok) else pure (ForInStep.yield r)) (fun ok s₃ =>
      if ok = true then loopsTo (model prog w) A (.ListComp e0 gs sc ps) d itv acc env body (fun s₅ => ∃ m, m < n ∧ I m s₅) s₃
      else ∃ m, m < n ∧ I m s₃) (fun _ _ => False) s₂) (fun _ _ => False) s₁') (fun _ _ => False) s₁) (fun _ _ => False) s)
  (n : Nat) (h : I n s) : codeAny (model prog w) A (.compLoop (.ListComp e0 gs sc ps) d itv acc env) R s := by
 refine codeAny_loop rfl I (fun n s hI => ?_) n h
 show wpAny _ A ((compTurn (.ListComp e0 gs sc ps) d itv acc env).onRaise (fun x => do noteFrame x env; theTreesLotGoes x)) _ _ s
 refine wpAny_noted ?_
 rw [ht]
 unfold turnB
 refine wpAny_bind (wpAny_standAt (wpAny_bind (wpAny_mono (turn n s hI) (fun r s₁ h₁ => ?_) fun _ _ h' => h'.elim)))
 cases r with
 | none => exact wpAny_pure h₁
 | some v =>
  refine wpAny_bind (wpAny_mono h₁ (fun _ s₁' h₁' => ?_) fun _ _ h' => h'.elim)
  refine wpAny_bind (wpAny_mono h₁' (fun _ s₂ h₂ => wpAny_bind (wpAny_mono h₂ (fun ok s₃ h₃ => ?_) fun _ _ h' => h'.elim)) fun _ _ h' => h'.elim)
  cases ok with
  | false => exact wpAny_pure ⟨rfl, h₃⟩
  | true => exact wpAny_mono h₃ (fun fin s₅ ⟨e, q⟩ => by subst e; exact ⟨rfl, q⟩) fun _ _ h' => h'.elim
end
structure AccOk (Y : Cx) (a : Addr) : Prop where
 loc : a ≠ Y.env.locals
 fs : a ∉ Y.fs
 sz : a ∈ Y.ex ∨ Y.s₀.heap.objs.size ≤ a
 cell : ∀ x c, Y.env.cells.lookup x = some c → c ≠ a
 pn : Y.pn = []
 calm : Y.calm = true
abbrev lobj (its : List Value) (k : Nat) : Obj := { cls := .type "list", data := .seq its.toArray k }
structure Grown (Y : Cx) (a : Addr) (PB : List (Addr × Obj)) (σ : St) (zs : List V) (H : Hp) (s : Shared) : Prop where
 inv : Inv Y PB σ H s
 no : H a = none
 len : zs.length ≤ sizeLine
 at' : ∃ its k, s.heap.get? a = some (lobj its k) ∧ Vals zs its
theorem Grown.pin {Y : Cx} {a : Addr} {PB : List (Addr × Obj)} {σ : St} {zs : List V} {H : Hp} {s : Shared} {its : List Value} {k : Nat} (A : AccOk Y a) (g : Grown Y a PB σ zs H s) (e : s.heap.get? a = some (lobj its k)) : Inv Y ((a, lobj its k) :: PB) σ H s :=
 g.inv.pins_of fun p hp => by
  rcases List.mem_cons.mp hp with rfl | hp
  ·exact ⟨e, g.no, A.loc, A.fs, fun v z => by
    have z' : Data.seq its.toArray k = Data.cell v := z
    cases z'⟩
  ·exact g.inv.pin p (List.mem_append_right _ hp)
theorem Inv.grown {Y : Cx} {a : Addr} {PB : List (Addr × Obj)} {σ : St} {zs : List V} {H : Hp} {s : Shared} {its : List Value} {k : Nat} (I : Inv Y ((a, lobj its k) :: PB) σ H s) (hz : zs.length ≤ sizeLine) (v : Vals zs its) : Grown Y a PB σ zs H s := by
 have q := I.pin (a, lobj its k) (List.mem_append_right _ List.mem_cons_self)
 exact ⟨I.pins_of fun p hp => I.pin p (List.mem_append_right _ (List.mem_cons_of_mem _ hp)), q.2.1, hz, its, k, q.1, v⟩
def zLt : List V → Prop → Prop := fun zs p => zs.length < sizeLine ∧ p
def BodyOk (Y : Cx) (a : Addr) (E : Expr) (d : Nat) (body : Value → Sem PySem.Fin) (C : List V → Prop) (B : TB) : Prop :=
 ∀ (jt : Value) (PB : List (Addr × Obj)) (σ : St) (zs : List V) (H : Hp) (s : Shared) (N : List V → Hp → Prop) (P : Shared → Prop), (∀ p ∈ PB, p.1 ≠ a) → Grown Y a PB σ zs H s → C zs → B σ zs H N → (∀ zs' H' s', Grown Y a PB σ zs' H' s' → N zs' H' → P s') → loopsTo (model Y.prog Y.w) Y.A E d jt (.ref a) Y.env (body jt) P s
theorem loop_ok {e0 tg it : Expr} {gs : List Comprehension} {ifs : List Expr} {sc : Scope} {ps : Pos} {d m0 : Nat} {Y : Cx} {a jt : Addr} {PB : List (Addr × Obj)} {g : TG} {tt : TT} {B : TB} {C : List V → Prop} {Z : List V → Prop → Prop} {body : Value → Sem PySem.Fin} {fp : List Addr} {tn : Nat → Heap → Prop} {J : It} {W : Nat → Nat → List V → Hp → Prop} {σ : St} {ys : List V} {H : Hp} {s : Shared} {N : List V → Hp → Prop} {R : Result → Shared → Prop}
  (A : AccOk Y a) (hPB : ∀ p ∈ PB, p.1 ≠ a) (ht : ∀ itv, compTurn (.ListComp e0 gs sc ps) d itv (.ref a) Y.env = turnB (.ListComp e0 gs sc ps) d tg it ifs (body itv) itv (.ref a) Y.env) (hx : Y.xe = fun _ _ => False) (hg : PG Y tg g) (htt : PTs Y ifs tt) (hb : BodyOk Y a (.ListComp e0 gs sc ps) d body C B) (hZ : ∀ zs p, Z zs p → C zs ∧ p)
  (T : Turn Y.prog Y.w Y.K tg J fp jt tn) (na : ∀ b ∈ fp, b ≠ a) (fpY : ∀ {o : Obj} {H' : Hp}, (∀ b ∈ fp, H' b = none) → ∀ b ∈ fp, FpOk Y ((a, o) :: PB) H' b) (st : tn 0 s.heap) (gr : Grown Y a PB σ ys H s) (hn : ∀ b ∈ fp, H b = none) (w0 : W 0 m0 ys H)
  (turn : ∀ j m zs H, W j m zs H → (J.stop j H ∧ N zs H) ∨ (J.go j H ∧ Z zs (∃ N2 : List V → Hp → Prop, (∀ zs' H', N2 zs' H' → ∃ m', m' < m ∧ W (j + 1) m' zs' H') ∧ ∀ x H', J.yld j H x H' → g x σ H' fun σ3 H2 => Keep σ σ3 ∧ tt σ3 H2 fun b H3 => br b (B σ3 zs H3 N2) (N2 zs H3))))
  (back : ∀ zs H' s', Grown Y a PB σ zs H' s' → N zs H' → R (.ok .next) s') : codeAny (model Y.prog Y.w) Y.A (.compLoop (.ListComp e0 gs sc ps) d (.ref jt) (.ref a) Y.env) R s := by
 refine loopB (ht _) (fun n' s' => ∃ (j : Nat) (zs : List V) (H' : Hp), Grown Y a PB σ zs H' s' ∧ tn j s'.heap ∧ (∀ b ∈ fp, H' b = none) ∧ W j n' zs H') ?_ m0 ⟨0, ys, H, gr, st, hn, w0⟩
 rintro n' s12 ⟨j, zs, H12, g12, st12, fr12, w12⟩
 obtain ⟨its', k', e12, v12⟩ := g12.at'
 have I12 := g12.pin A e12
 rcases turn j n' zs H12 w12 with ⟨stop, q⟩ | ⟨go2, hz0⟩
 ·refine thn (T.done Y rfl rfl rfl A.calm j _ s12 _ H12 _ I12 (fpY fr12) st12 stop) fun r s13 ⟨hr, I13⟩ => ?_
  subst hr
  exact back zs H12 s13 (Inv.grown I13 g12.len v12) q
 ·obtain ⟨hC, N2, hN2, step2⟩ := hZ _ _ hz0
  refine thn (T.item Y rfl rfl rfl A.calm j _ s12 _ H12 _ I12 (fpY fr12) st12 go2) fun r s13 ⟨u2, hr, h13⟩ => ?_
  subst hr
  refine thn h13 fun _ s14 ⟨x2, H14, I14, r14, y14, st14, fr14⟩ => ?_
  have I14' := I14.pinned (fpY fr14) (T.obj _ _ st14)
  have hgY := hg _ s14 _ H14 x2 u2 _ I14' r14 (step2 x2 H14 y14)
  rw [hx] at hgY
  refine thn hgY fun _ s15 ⟨σ15, H15, I15, kp2, q15⟩ => ?_
  have htY := htt _ s15 σ15 H15 _ I15 q15
  rw [hx] at htY
  refine thn htY fun b2 s16 ⟨H16, I16, q16⟩ => ?_
  have pn : ∀ p ∈ PB ++ pinsAt fp s14.heap, p.1 ≠ a := fun p hp => by
   rcases List.mem_append.mp hp with hp | hp
   ·exact hPB p hp
   ·exact na p.1 (of_pinsAt hp).1
  have back2 : ∀ {σ' : St} {zs' : List V} {H' : Hp} {s' : Shared}, Keep σ σ' → Grown Y a (PB ++ pinsAt fp s14.heap) σ' zs' H' s' → N2 zs' H' → ∃ m, m < n' ∧ ∃ (j : Nat) (zs : List V) (H' : Hp), Grown Y a PB σ zs H' s' ∧ tn j s'.heap ∧ (∀ b ∈ fp, H' b = none) ∧ W j m zs H' := fun {σ' zs' H' s'} kp G n2 => by
   obtain ⟨m', hm, w16⟩ := hN2 _ _ n2
   refine ⟨m', hm, j + 1, zs', H', ⟨(G.inv.pins_of fun p hp => G.inv.pin p (List.mem_append_right _ (List.mem_append_left _ hp))).weak (by rw [kp.len]) fun i v e => kp.get e, G.no, G.len, G.at'⟩, T.keep _ _ _ st14 fun b hb o e => (G.inv.pin (b, o) (List.mem_append_right _ (List.mem_append_right _ (mem_pinsAt hb e)))).1, fun b hb => ?_, w16⟩
   obtain ⟨o, e, d⟩ := T.obj _ _ st14 b hb
   exact (G.inv.pin (b, o) (List.mem_append_right _ (List.mem_append_right _ (mem_pinsAt hb e)))).2.1
  have g16 : Grown Y a (PB ++ pinsAt fp s14.heap) σ15 zs H16 s16 := Inv.grown I16 g12.len v12
  cases b2 with
  | false =>
   rw [if_neg Bool.false_ne_true]
   exact back2 kp2 g16 (q16.2 rfl)
  | true =>
   rw [if_pos rfl]
   exact hb _ _ _ _ _ _ _ _ pn g16 hC (q16.1 rfl) fun zs' H' s' G n2 => back2 kp2 G n2
def bLast (te : TE) : TB := fun σ zs H N => te σ H fun y H4 => N (zs ++ [y]) H4
theorem body_last {Y : Cx} {a : Addr} {E elt : Expr} {d : Nat} {te : TE} (A : AccOk Y a) (hx : Y.xe = fun _ _ => False) (he : PE Y elt te) : BodyOk Y a E d (fun jt => bodyL E d elt jt (.ref a) Y.env) (fun zs => zs.length < sizeLine) (bLast te) := by
 intro jt PB σ zs H s N P hPB gr zlt h back
 obtain ⟨its', k', e12, v12⟩ := gr.at'
 have I16 := gr.pin A e12
 have heY := he _ s σ H _ I16 h
 rw [hx] at heY
 refine bodyL_ok (thn heY fun yv s17 ⟨y, H17, I17, r17, n17⟩ => ?_)
 have gI := Inv.grown I17 gr.len v12
 have b4 := (I17.pin (a, lobj its' k') (List.mem_append_right _ List.mem_cons_self)).1
 have hl := v12.length
 refine call_meets F.slot_list_append ⟨_, b4, rfl⟩ F.entry_list_append (F.args_list_append_2 _ _) (PySem.list_append a its'.toArray k' yv (by rw [List.size_toArray]; omega)) ⟨b4, ?_⟩
 have q := PySem.IsL.update b4 (fun a => a.push yv)
 have eqp : its'.toArray.push yv = (its' ++ [yv]).toArray := by simp
 rw [eqp] at q
 have I18 : Inv Y PB σ H17 { s17 with heap := s17.heap.update a (Obj.mapSeq fun a => a.push yv), toks := s17.toks } :=
  gI.inv.turned (it := a) (fun b o hb e => (Heap.get?_update_other s17.heap _ (Ne.symm hb)).trans e) gI.no A.loc A.sz A.cell fun p hp z => by
   rw [A.pn, List.nil_append] at hp
   exact hPB p hp z
 exact back (zs ++ [y]) H17 _ ⟨I18, gI.no, by rw [List.length_append, List.length_singleton]; omega, its' ++ [yv], _, q, v12.append (.cons r17 .nil)⟩ n17
theorem comp_gen {X : Cx} {tg iter e0 : Expr} {gs : List Comprehension} {ifs : List Expr} {scope : Scope} {pos pos' : Pos} {wi : TI} {g : TG} {tt : TT} {Bt : TB} {Cd : List V → Prop} (Z : List V → Prop → Prop) {N' : List Str} {cap : List (Option Nat)} {use : Option (Value → Sem Unit)} {Q' : Value → Shared → Prop} {body : Value → Value → Env → Sem PySem.Fin}
  {pins : List (Addr × Obj)} {s : Shared} {σ : St} {H : Hp} {Q : List V → Hp → Prop}
  (hc : X.calm = true) (hi : PI X tg iter wi) (B : BlockScope X.env.scope X.N scope N' cap) (hg : ∀ s H ex C, PG (blockCx X N' scope s H ex C) tg g) (ht : ∀ s H ex C, PTs (blockCx X N' scope s H ex C) ifs tt)
  (htn : ∀ itv acc env, compTurn (.ListComp e0 (⟨tg, iter, ifs, 0⟩ :: gs) scope pos) 0 itv acc env = turnB (.ListComp e0 (⟨tg, iter, ifs, 0⟩ :: gs) scope pos) 0 tg iter ifs (body itv acc env) itv acc env)
  (hbd : ∀ s H ex C a, AccOk (blockCx X N' scope s H ex C) a → BodyOk (blockCx X N' scope s H ex C) a (.ListComp e0 (⟨tg, iter, ifs, 0⟩ :: gs) scope pos) 0 (fun itv => body itv (.ref a) (blockCx X N' scope s H ex C).env) Cd Bt) (hZ : ∀ zs p, Z zs p → Cd zs ∧ p)
  (hs : ∀ x, foldedSetIterable iter X.env x = pure x) (I : Inv X pins σ H s)
  (h : wi σ H fun J H1 => ∃ W : Nat → Nat → List V → Hp → Prop, (∃ m, W 0 m [] H1) ∧ ∀ i m ys H, W i m ys H → (J.stop i H ∧ Q ys H) ∨ (J.go i H ∧ Z ys (∃ N : List V → Hp → Prop, (∀ ys' H', N ys' H' → ∃ m', m' < m ∧ W (i + 1) m' ys' H') ∧ ∀ x H', J.yld i H x H' → g x (capOf cap σ) H' fun σ2 H2 => Keep (capOf cap σ) σ2 ∧ tt σ2 H2 fun b H3 => br b (Bt σ2 ys H3 N) (N ys H3))))
  (fin : ∀ (acc C : Addr) (H : Hp) (ys : List V) (s' : Shared), H acc = none → Inv X pins σ (upd H acc (.lst ys)) s' → Left X pins C (upd H acc (.lst ys)) s' → Q ys H → compPost (model X.prog X.w) X.A X.xe use Q' (.ref acc) C (.ok .next) s') :
  wpAny (model X.prog X.w) X.A (comprehension (.ListComp e0 (⟨tg, iter, ifs, 0⟩ :: gs) scope pos) scope X.env pos' (newList []) false (eval iter X.env) use) Q' X.xe s := by
 have hclos : closureFor scope X.env = pure (clo X.env.cells scope.names []) := closureFor_eq fun y hy hf => I.ok.has y.1 (B.free y hy hf)
 refine wpAny_comprehension_free (cl := clo X.env.cells scope.names []) rfl hs hclos B.kind B.names (thn (hi pins s σ H _ I h) fun v s1 h1 => thn h1 fun itv s2 h2 => ?_)
 obtain ⟨it, fp, tn, J, H2, e, I2, T, st2, f2, W, ⟨m0, w0⟩, turn⟩ := h2
 subst e
 refine wpAny_newObj_type (newBlock ?_)
 dsimp only
 generalize hH3 : s2.heap.push { cls := .type "list", dict := none, data := .seq ([] : List Value).toArray } = h3
 have hsz3 : h3.objs.size = s2.heap.objs.size + 1 := by rw [← hH3]; exact Heap.size_push ..
 have hk3 : ∀ b o, s2.heap.get? b = some o → h3.get? b = some o := fun b o e => by rw [← hH3]; exact Heap.get?_push_of_some _ e
 have hacc3 : h3.get? s2.heap.objs.size = some { cls := .type "list", data := .seq ([] : List Value).toArray } := by rw [← hH3]; exact Heap.get?_push_size _ rfl
 have hlt : ∀ b ∈ fp, b < s2.heap.objs.size := fun b hb => let ⟨o, e, _⟩ := T.obj _ _ st2 b hb; Heap.lt_size e
 have I4 := block_start I2 B f2 hlt hk3 (by rw [hsz3]; exact Nat.le_succ _)
 have acc4 : (pushCells (h3.push { cls := .type "dict", data := .dict #[] }) scope.names).get? s2.heap.objs.size = some { cls := .type "list", data := .seq ([] : List Value).toArray } := pushCells_keeps _ _ _ _ (Heap.get?_push_of_some _ hacc3)
 have st4 : tn 0 (pushCells (h3.push { cls := .type "dict", data := .dict #[] }) scope.names) := T.keep _ _ _ st2 fun b _ o e => pushCells_keeps _ _ _ _ (Heap.get?_push_of_some _ (hk3 b o e))
 have haC : s2.heap.objs.size ≠ h3.objs.size := by rw [hsz3]; exact Nat.ne_of_lt (Nat.lt_succ_self _)
 have haN : s2.heap.objs.size ∉ frs X.stack := fun z => by
  rcases List.mem_cons.mp (I2.stkSub _ z) with q | q
  ·exact absurd I2.lt (by rw [← q]; exact Nat.lt_irrefl _)
  ·exact I2.nofs (Nat.le_refl _) q
 have okY := I4.ok
 have fpY : ∀ {pins' : List (Addr × Obj)} {H' : Hp}, (∀ b ∈ fp, H' b = none) → (∀ p ∈ pins', p.1 = s2.heap.objs.size) → ∀ b ∈ fp, FpOk (blockCx X N' scope s2 H2 fp h3.objs.size) pins' H' b := fun {pins' H'} hn hp b hb =>
  ⟨hn b hb, (okY.exf b hb).1, okY.exfs b hb, .inl hb, (okY.exf b hb).2, fun p z e => by
   have z' : p ∈ pins' := z
   have := hlt b hb
   rw [← e, hp p z'] at this
   exact Nat.lt_irrefl _ this⟩
 have cellNe : ∀ x c, (blockCx X N' scope s2 H2 fp h3.objs.size).env.cells.lookup x = some c → c ≠ s2.heap.objs.size := fun x c ec z => by
  rcases from_look scope.names (h3.objs.size + 1) _ ec with q' | q'
  ·rw [z, hsz3] at q'
   exact absurd q' (by omega)
  ·have ec' : X.env.cells.lookup x = some c := (clo_look _ _ q').elim id fun z => nomatch z
   obtain ⟨_, q''⟩ := I2.cell x c ec'
   have := q''.lt
   rw [z] at this
   exact Nat.lt_irrefl _ this
 have loop : ∀ s4 : Shared, s4 = { s2 with heap := pushCells (h3.push { cls := .type "dict", data := .dict #[] }) scope.names } →
   codeAny (model X.prog X.w) X.A (.compLoop (.ListComp e0 (⟨tg, iter, ifs, 0⟩ :: gs) scope pos) 0 (.ref it) (.ref s2.heap.objs.size) (blockEnv scope X.env h3.objs.size)) (compPost (model X.prog X.w) X.A X.xe use Q' (.ref s2.heap.objs.size) h3.objs.size) s4 := by
  rintro s4 rfl
  have A0 : AccOk (blockCx X N' scope s2 H2 fp h3.objs.size) s2.heap.objs.size := ⟨haC, haN, .inr (Nat.le_refl _), cellNe, rfl, hc⟩
  refine loop_ok (Y := blockCx X N' scope s2 H2 fp h3.objs.size) (PB := []) (W := W) A0 (fun p hp => absurd hp (by simp)) (fun _ => htn _ _ _) rfl (hg _ _ _ _) (ht _ _ _ _) (hbd _ _ _ _ _ A0) hZ T (fun b hb z => absurd (hlt b hb) (by rw [z]; exact Nat.lt_irrefl _))
   (fun {o H'} hn b hb => fpY hn (fun p hp => by rw [List.mem_singleton.mp hp]) b hb) st4 ⟨I4, I2.hok.fresh (Nat.le_refl _), Nat.zero_le _, [], 0, acc4, .nil⟩ (fun b hb => (f2 b hb).1) w0 turn fun ys H5 s6 G q => ?_
  obtain ⟨its, k, e6, v5⟩ := G.at'
  have fa5 := G.no
  have z5 := G.len
  have I6 := G.inv
  have nacc : ∀ b u, H5 b = some u → b ≠ s2.heap.objs.size := fun b u q z => by rw [z, fa5] at q; cases q
  have un : Un (frs X.stack) fp H2 (upd H5 s2.heap.objs.size (.lst ys)) s2.heap s6.heap := by
   have u := I6.base
   refine ⟨u.keep, u.slot, fun b o q n hx => ?_, u.there, fun b xs q => ?_, fun b o xs q => ?_, fun b ps q => ?_⟩
   ·rw [upd_ne (Nat.ne_of_lt (Heap.lt_size q))]
    exact u.free b o q n hx
   ·have z := u.tups b xs q
    rw [upd_ne (nacc b _ z)]; exact z
   ·have z := u.frzs b o xs q
    rw [upd_ne (nacc b _ z)]; exact z
   ·obtain ⟨more, z⟩ := u.tbls b ps q
    exact ⟨more, by rw [upd_ne (nacc b _ z)]; exact z⟩
  have hok : HOk X.prog X.w (upd H5 s2.heap.objs.size (.lst ys)) s6.heap := fun b u q => by
   by_cases hb : b = s2.heap.objs.size
   ·subst hb
    rw [upd_same] at q; cases q
    exact ⟨z5, its, k, v5, e6⟩
   ·rw [upd_ne hb] at q
    have o6 : ObjOk X.prog X.w H5 s6.heap b u := I6.hok b u q
    exact o6.stay (fun _ _ _ e => e) (fun c z => by rw [upd_ne (nacc c _ z)]; exact z) fun c xs z => by rw [upd_ne (nacc c _ z)]; exact z
  have IX : Inv X pins σ (upd H5 s2.heap.objs.size (.lst ys)) s6 := I2.call' (show s6.os = s2.os from I6.os) un hok I6.bare fun b hb => let f := f2 b hb; ⟨f.2.2.2.1, f.2.1, f.2.2.2.2.1, f.2.2.2.2.2⟩
  have hCs : s2.heap.objs.size ≤ h3.objs.size := by rw [hsz3]; exact Nat.le_succ _
  refine fin _ _ H5 ys s6 fa5 IX ⟨let ⟨m, hn, _⟩ := I6.loc; ⟨m, hn⟩, ?_, ?_, Nat.le_trans I2.sz hCs, fun x c ec z => ?_, fun p hp z => ?_⟩ q
  ·rw [upd_ne (Ne.symm haC)]; exact I6.free
  ·exact Nat.ne_of_gt (Nat.lt_of_lt_of_le I2.lt hCs)
  ·obtain ⟨_, q⟩ := I2.cell x c ec
   have := q.lt
   rw [z] at this
   exact absurd (Nat.lt_of_lt_of_le this hCs) (Nat.lt_irrefl _)
  ·have := Heap.lt_size (I2.pin p hp).1
   rw [z] at this
   exact absurd (Nat.lt_of_lt_of_le this hCs) (Nat.lt_irrefl _)
 exact codeAny_compStart_list (loop _ rfl) (T.self _ 0 _ _ _ st4 (loop _ rfl))
theorem comp_core {X : Cx} {tg iter elt : Expr} {ifs : List Expr} {scope : Scope} {pos pos' : Pos} {wi : TI} {g : TG} {tt : TT} {te : TE} {N' : List Str} {cap : List (Option Nat)} {use : Option (Value → Sem Unit)} {Q' : Value → Shared → Prop}
  {pins : List (Addr × Obj)} {s : Shared} {σ : St} {H : Hp} {Q : List V → Hp → Prop}
  (hc : X.calm = true) (hi : PI X tg iter wi) (B : BlockScope X.env.scope X.N scope N' cap) (hg : ∀ s H ex C, PG (blockCx X N' scope s H ex C) tg g) (ht : ∀ s H ex C, PTs (blockCx X N' scope s H ex C) ifs tt) (he : ∀ s H ex C, PE (blockCx X N' scope s H ex C) elt te)
  (hs : ∀ x, foldedSetIterable iter X.env x = pure x) (I : Inv X pins σ H s) (h : tComp wi cap g tt te σ H Q)
  (fin : ∀ (acc C : Addr) (H : Hp) (ys : List V) (s' : Shared), H acc = none → Inv X pins σ (upd H acc (.lst ys)) s' → Left X pins C (upd H acc (.lst ys)) s' → Q ys H → compPost (model X.prog X.w) X.A X.xe use Q' (.ref acc) C (.ok .next) s') :
  wpAny (model X.prog X.w) X.A (comprehension (.ListComp elt [⟨tg, iter, ifs, 0⟩] scope pos) scope X.env pos' (newList []) false (eval iter X.env) use) Q' X.xe s :=
 comp_gen zLt (body := fun itv acc env => bodyL (.ListComp elt [⟨tg, iter, ifs, 0⟩] scope pos) 0 elt itv acc env) (Bt := bLast te) hc hi B hg ht (fun _ _ _ => rfl) (fun s H ex C a A => body_last A rfl (he s H ex C)) (fun _ _ z => z) hs I h fin
def tCompE (wi : TI) (cap : List (Option Nat)) (g : TG) (tt : TT) (te : TE) : TE := fun σ H Q => tComp wi cap g tt te σ H fun ys H' => ∀ p, H' p = none → Q (.ref p) (upd H' p (.lst ys))
theorem pe_comp {X : Cx} {tg iter elt : Expr} {ifs : List Expr} {scope : Scope} {pos : Pos} {wi : TI} {g : TG} {tt : TT} {te : TE} (N' : List Str) (cap : List (Option Nat))
  (hc : X.calm = true) (hi : PI X tg iter wi) (B : BlockScope X.env.scope X.N scope N' cap) (hg : ∀ s H ex C, PG (blockCx X N' scope s H ex C) tg g) (ht : ∀ s H ex C, PTs (blockCx X N' scope s H ex C) ifs tt) (he : ∀ s H ex C, PE (blockCx X N' scope s H ex C) elt te)
  (hs : ∀ x, foldedSetIterable iter X.env x = pure x := by intro _; rfl) : PE X (.ListComp elt [⟨tg, iter, ifs, 0⟩] scope pos) (tCompE wi cap g tt te) := by
 intro pins s σ H Q I h
 rw [eval_ListComp]
 refine comp_core (use := none) hc hi B hg ht he hs I h fun acc C H ys s' hn I' L q => ?_
 obtain ⟨m, hm⟩ := L.ns
 refine ⟨m, hm, fun h' hsb => ⟨.ref acc, _, I'.turned (t' := s'.toks) (it := C) (fun b o hb e => hsb.extBut b o hb e) L.free L.loc (.inr L.sz) L.cell L.pin, rfl, q acc hn⟩⟩
def tCompS (i : Nat) (wi : TI) (cap : List (Option Nat)) (g : TG) (tt : TT) (te : TE) : TS := fun D σ H => tComp wi cap g tt te σ H fun ys H' => ∀ p, H' p = none → D.nx (σ.set i (some (.ref p))) (upd H' p (.lst ys))
theorem ps_setComp {X : Cx} {i : Nat} {y : Str} {tg iter elt : Expr} {ifs : List Expr} {scope : Scope} {pos pos' pos'' : Pos} {wi : TI} {g : TG} {tt : TT} {te : TE} (N' : List Str) (cap : List (Option Nat)) (hN : X.N.Nodup) (hin : X.N[i]? = some y) (hy : Loc X.env.scope y)
  (hc : X.calm = true) (hi : PI X tg iter wi) (B : BlockScope X.env.scope X.N scope N' cap) (hg : ∀ s H ex C, PG (blockCx X N' scope s H ex C) tg g) (ht : ∀ s H ex C, PTs (blockCx X N' scope s H ex C) ifs tt) (he : ∀ s H ex C, PE (blockCx X N' scope s H ex C) elt te)
  (hsw : swapsWith (.ListComp elt [⟨tg, iter, ifs, 0⟩] scope pos) (some (.Name y pos')) pos''.line X.env = pure true := by rfl)
  (hf : X.fn y = true ∨ X.env.scope.names.lookup y = some .local := by first | exact .inl rfl | exact .inr rfl | assumption)
  (hs : ∀ x, foldedSetIterable iter X.env x = pure x := by intro _; rfl) : PS X (.Assign [.Name y pos'] (.ListComp elt [⟨tg, iter, ifs, 0⟩] scope pos) pos'') (tCompS i wi cap g tt te) := by
 intro pins s σ H D I h
 rw [exec_Assign_Name_used _ _ _ _ hsw]
 refine wpAny_bind (wpAny_standAt (wpAny_bind ?_))
 show wpAny _ X.A (do let _ ← comprehension (.ListComp elt [⟨tg, iter, ifs, 0⟩] scope pos) scope X.env _ (newList []) false (eval iter X.env) (some (assign (.Name y pos') X.env))) _ _ s
 refine wpAny_bind (wpAny_mono (comp_core (use := some (assign (.Name y pos') X.env)) (Q' := fun _ s' => SP X pins D .next s') hc hi B hg ht he hs I h fun acc C H ys s' hn I' L q => ?_) (fun _ s' hq => wpAny_pure (wpAny_pure hq)) fun _ _ e => e)
 obtain ⟨m, hm⟩ := L.ns
 refine wpAny_assign_Name (store_ok2 I' hN hin hy (show RelV (.ref acc) (.ref acc) from rfl) (fun s'' I'' ⟨a, sb, ha⟩ => ?_) hf)
 have hCa : C ≠ a := by
  rcases ha with e | e
  ·rw [e]; exact L.loc
  ·exact fun z => L.cell _ _ e z.symm
 refine ⟨m, hm.sameBut sb hCa, fun h' hsb => ?_⟩
 exact ⟨_, _, I''.turned (t' := s''.toks) (it := C) (fun b o hb e => hsb.extBut b o hb e) L.free L.loc (.inr L.sz) L.cell L.pin, q acc hn⟩
def Walk (J : It) (cap : List (Option Nat)) (g : TG) (tt : TT) (te : TE) (σ : St) (Q : List V → Hp → Prop) (H1 : Hp) : Prop :=
 ∃ W : Nat → Nat → List V → Hp → Prop, (∃ m, W 0 m [] H1) ∧ ∀ i m ys H, W i m ys H →
  (J.stop i H ∧ Q ys H) ∨
  (J.go i H ∧ ys.length < sizeLine ∧ ∃ N : List V → Hp → Prop, (∀ ys' H', N ys' H' → ∃ m', m' < m ∧ W (i + 1) m' ys' H') ∧ ∀ x H', J.yld i H x H' → g x (capOf cap σ) H' fun σ2 H2 => Keep (capOf cap σ) σ2 ∧ tt σ2 H2 fun b H3 =>
   br b (te σ2 H3 fun y H4 => N (ys ++ [y]) H4) (N ys H3))
theorem walk_n {J : It} {cap : List (Option Nat)} {g : TG} {tt : TT} {te : TE} {σ : St} {Q : List V → Hp → Prop} {H : Hp} (n : Nat) (Pv : Nat → List V → Hp → Prop) (hn : n ≤ 100000) (h0 : Pv 0 [] H) (hz : ∀ i ys H, Pv i ys H → ys.length ≤ i)
  (hs : ∀ i ys H, i < n → Pv i ys H → J.go i H ∧ ∀ x H', J.yld i H x H' → g x (capOf cap σ) H' fun σ2 H2 => Keep (capOf cap σ) σ2 ∧ tt σ2 H2 fun b H3 => br b (te σ2 H3 fun y H4 => Pv (i + 1) (ys ++ [y]) H4) (Pv (i + 1) ys H3))
  (hd : ∀ ys H, Pv n ys H → J.stop n H ∧ Q ys H) : Walk J cap g tt te σ Q H := by
 refine ⟨fun i m ys H => m = n - i ∧ i ≤ n ∧ Pv i ys H, ⟨n, by simp, Nat.zero_le _, h0⟩, ?_⟩
 rintro i m ys H ⟨rfl, hi, p⟩
 by_cases hlt : i < n
 ·obtain ⟨a, b⟩ := hs i ys H hlt p
  refine .inr ⟨a, ?_, Pv (i + 1), fun ys' H' p' => ⟨n - (i + 1), by omega, rfl, hlt, p'⟩, b⟩
  have := hz i ys H p
  have : (100000 : Nat) < sizeLine := by decide
  omega
 ·have e : i = n := by omega
  subst e
  exact .inl (hd ys H p)
theorem walk_tup {K : PySem.W.Frag} {a : Addr} {xs : List V} {cap : List (Option Nat)} {g : TG} {tt : TT} {te : TE} {σ : St} {Q : List V → Hp → Prop} {H : Hp} (Pv : Nat → List V → Hp → Prop) (hn : xs.length ≤ 100000) (h0 : Pv 0 [] H) (hz : ∀ i ys H, Pv i ys H → ys.length ≤ i)
  (hl : ∀ i ys H, i ≤ xs.length → Pv i ys H → SqT K H a xs)
  (hs : ∀ i x ys H, xs[i]? = some x → Pv i ys H → g x (capOf cap σ) H fun σ2 H2 => Keep (capOf cap σ) σ2 ∧ tt σ2 H2 fun b H3 => br b (te σ2 H3 fun y H4 => Pv (i + 1) (ys ++ [y]) H4) (Pv (i + 1) ys H3))
  (hd : ∀ ys H, Pv xs.length ys H → Q ys H) : Walk (Itt K a) cap g tt te σ Q H :=
 walk_n xs.length Pv hn h0 hz (fun i ys H hi p => ⟨⟨xs, xs[i], hl i ys H (Nat.le_of_lt hi) p, by simp [hi]⟩, fun x H' ⟨e, y⟩ => by subst e; exact hs i x ys _ (y xs (hl i ys _ (Nat.le_of_lt hi) p)) p⟩)
  fun ys H p => ⟨⟨xs, hl _ ys H (Nat.le_refl _) p, Nat.le_refl _⟩, hd ys H p⟩
theorem walk_lst {K : PySem.W.Frag} {a : Addr} {xs : List V} {cap : List (Option Nat)} {g : TG} {tt : TT} {te : TE} {σ : St} {Q : List V → Hp → Prop} {H : Hp} (Pv : Nat → List V → Hp → Prop) (hn : xs.length ≤ 100000) (h0 : Pv 0 [] H) (hz : ∀ i ys H, Pv i ys H → ys.length ≤ i)
  (hl : ∀ i ys H, i ≤ xs.length → Pv i ys H → SqL K H a xs)
  (hs : ∀ i x ys H, xs[i]? = some x → Pv i ys H → g x (capOf cap σ) H fun σ2 H2 => Keep (capOf cap σ) σ2 ∧ tt σ2 H2 fun b H3 => br b (te σ2 H3 fun y H4 => Pv (i + 1) (ys ++ [y]) H4) (Pv (i + 1) ys H3))
  (hd : ∀ ys H, Pv xs.length ys H → Q ys H) : Walk (Itl K a) cap g tt te σ Q H :=
 walk_n xs.length Pv hn h0 hz (fun i ys H hi p => ⟨⟨xs, xs[i], hl i ys H (Nat.le_of_lt hi) p, by simp [hi]⟩, fun x H' ⟨e, y⟩ => by subst e; exact hs i x ys _ (y xs (hl i ys _ (Nat.le_of_lt hi) p)) p⟩)
  fun ys H p => ⟨⟨xs, hl _ ys H (Nat.le_refl _) p, Nat.le_refl _⟩, hd ys H p⟩
theorem walk_range {lo : Int} {n : Nat} {cap : List (Option Nat)} {g : TG} {tt : TT} {te : TE} {σ : St} {Q : List V → Hp → Prop} {H : Hp} (Pv : Nat → List V → Hp → Prop) (hn : n ≤ 100000) (h0 : Pv 0 [] H) (hz : ∀ i ys H, Pv i ys H → ys.length ≤ i)
  (hs : ∀ i ys H, i < n → Pv i ys H → g (.int (lo + i)) (capOf cap σ) H fun σ2 H2 => Keep (capOf cap σ) σ2 ∧ tt σ2 H2 fun b H3 => br b (te σ2 H3 fun y H4 => Pv (i + 1) (ys ++ [y]) H4) (Pv (i + 1) ys H3))
  (hd : ∀ ys H, Pv n ys H → Q ys H) : Walk (Itr lo n) cap g tt te σ Q H :=
 walk_n n Pv hn h0 hz (fun i ys H hi p => ⟨hi, fun x H' ⟨e, y⟩ => by subst e y; exact hs i ys _ hi p⟩) fun ys H p => ⟨Nat.le_refl _, hd ys H p⟩
end L2

end

section
namespace L2
open PySem PySem.Spec PyProof.Rows
open AutoSeq1 (wpAny_loadPart')
section
variable {prog : Program} {w : World} {A : Around} {E : Value → Shared → Prop} {s : Shared}
theorem nextT_item {it t : Addr} {i : Nat} {items : Array Value} {x : Value} {Q : Value → Shared → Prop} (hit : s.heap.IsTupleIter it t i) (ht : s.heap.IsTuple t items) (hx : items[i]? = some x)
  (hQ : ∀ h', h'.IsTupleIter it t (i + 1) → Heap.SameBut it s.heap h' → Q x { s with heap := h' }) : wpAny (model prog w) A (Builtin.SmallTypes.nextOf (.ref it)) Q E s := by
 obtain ⟨o, ho, hc, hd⟩ := id hit; obtain ⟨ol, hol, _, nl, hdl⟩ := ht; unfold Builtin.SmallTypes.nextOf
 refine wpAny_bind (wpAny_callSpecial?_slot (name := Str.ofString "__next__") hit.typeIs F.slot_tuple_iterator_next (wpAny_call_entry F.slot_tuple_iterator_next hit.typeIs F.entry_tuple_iterator_next ?_ (F.args_tuple_iterator_next_1 _)))
 show wpAny _ _ (field (.ref it) 0 >>= _) _ _ s; refine wpAny_bind (wpAny_field ho hd (x := .ref t) rfl ?_)
 show wpAny _ _ (if (Value.ref t == Value.none) = true then _ else _) _ _ s; rw [if_neg (show ¬ ((Value.ref t == Value.none) = true) from Bool.false_ne_true)]
 show wpAny _ _ (field (.ref it) 1 >>= _) _ _ s; refine wpAny_bind (wpAny_field ho hd (x := .int i 0) rfl ?_)
 show wpAny _ _ (seqItems? (.ref t) >>= _) _ _ s; refine wpAny_bind (wpAny_seqItems hol hdl ?_); simp only [Int.toNat_natCast, hx]
 refine wpAny_bind (wpAny_setField ho hd (by simp) (wpAny_pure ⟨x, rfl, wpAny_pure (hQ _ ?_ (Heap.SameBut.update ..))⟩)); exact ⟨_, Heap.get?_update_self _ ho (Obj.isFreed_of_fields (Obj.data_mapFields hd _)), (Obj.cls_mapFields ..).trans hc, by rw [Obj.data_mapFields hd]; simp [rawInt]⟩
theorem nextT_end {it t : Addr} {i : Nat} {items : Array Value} {Q : Value → Shared → Prop} (hh : A.handled = none) (hit : s.heap.IsTupleIter it t i) (ht : s.heap.IsTuple t items) (hx : items[i]? = none)
  (hE : ∀ h' e, Heap.ExtBut it s.heap h' → (∃ o, h'.get? e = some o ∧ o.cls = .type "StopIteration") → E (.ref e) { s with heap := h' }) : wpAny (model prog w) A (Builtin.SmallTypes.nextOf (.ref it)) Q E s := by
 obtain ⟨o, ho, hc, hd⟩ := id hit; obtain ⟨ol, hol, _, nl, hdl⟩ := ht; unfold Builtin.SmallTypes.nextOf
 refine wpAny_bind (wpAny_callSpecial?_slot (name := Str.ofString "__next__") hit.typeIs F.slot_tuple_iterator_next (wpAny_call_entry F.slot_tuple_iterator_next hit.typeIs F.entry_tuple_iterator_next ?_ (F.args_tuple_iterator_next_1 _)))
 show wpAny _ _ (field (.ref it) 0 >>= _) _ _ s; refine wpAny_bind (wpAny_field ho hd (x := .ref t) rfl ?_)
 show wpAny _ _ (if (Value.ref t == Value.none) = true then _ else _) _ _ s; rw [if_neg (show ¬ ((Value.ref t == Value.none) = true) from Bool.false_ne_true)]
 show wpAny _ _ (field (.ref it) 1 >>= _) _ _ s; refine wpAny_bind (wpAny_field ho hd (x := .int i 0) rfl ?_)
 show wpAny _ _ (seqItems? (.ref t) >>= _) _ _ s; refine wpAny_bind (wpAny_seqItems hol hdl ?_); simp only [Int.toNat_natCast, hx]
 refine wpAny_bind (wpAny_rule (wpAny_bind (wpAny_setField ho hd (by simp) ?_))); show wpAny _ _ (newExc (.type "StopIteration") [] >>= _) _ _ _
 refine wpAny_bind ?_; simp only [newExc, newTuple]; refine wpAny_bind (wpAny_newObj_type ?_ (by size_fits))
 refine wpAny_bind (m := firstArgMember _ _) (wpAny_of_eq (a := Value.none) (by first | rfl | (simp only [firstArgMember]; rfl)) ?_); refine wpAny_newObj_type ?_ (by size_fits); simp only [raiseNew]
 refine wpAny_bind (wpAny_handled ?_); first | rw [show A.in1.handled = none from hh] | rw [hh]
 refine wpAny_bind (wpAny_pure (wpAny_throw ?_)); exact hE _ _ (((Heap.SameBut.update ..).extBut.push _).push _) ⟨_, Heap.get?_push_size _ rfl, rfl⟩
end
structure SeqK (P : Program) (w : World) (K : PySem.W.Frag) where
 Sq : Hp → Addr → List V → Prop
 It : Heap → Addr → Addr → Nat → Prop
 Is : Heap → Addr → Array Value → Prop
 obj : Addr → Obj
 get : ∀ {X : Cx} {pins : List (Addr × Obj)} {σ : St} {H : Hp} {s : Shared} {a : Addr} {xs : List V}, X.K = K → Inv X pins σ H s → Sq H a xs → ∃ its : List Value, Vals xs its ∧ Is s.heap a its.toArray ∧ xs.length ≤ sizeLine
 inj : ∀ {X : Cx} {pins : List (Addr × Obj)} {σ : St} {H : Hp} {s : Shared} {a : Addr} {xs ys : List V}, X.K = K → Inv X pins σ H s → Sq H a xs → Sq H a ys → xs = ys
 draws : ∀ (A : Around), A.handled = none → ∀ (it l : Addr), l ≠ it → ∀ items : Array Value, Draws P w A it [it, l] items.size (fun i v => items[i]? = some v) (fun i h => It h it l i ∧ Is h l items)
 ito : ∀ {h : Heap} {it l : Addr} {i : Nat}, It h it l i → ∃ o, h.get? it = some o ∧ ∀ v, o.data ≠ .cell v
 itk : ∀ {h h' : Heap} {it l : Addr} {i : Nat}, It h it l i → (∀ o, h.get? it = some o → h'.get? it = some o) → It h' it l i
 isk : ∀ {h h' : Heap} {l : Addr} {items : Array Value}, Is h l items → (∀ o, h.get? l = some o → h'.get? l = some o) → Is h' l items
 iso : ∀ {h : Heap} {l : Addr} {items : Array Value}, Is h l items → ∃ o, h.get? l = some o
 ok : Prop
 itn : ok → ∀ (h : Heap) (l : Addr), It (h.push (obj l)) h.objs.size l 0
def seqL (P : Program) (w : World) (K : PySem.W.Frag) : SeqK P w K where
 Sq := fun H a xs => SqL K H a xs
 It := fun h it l i => h.IsListIter it l i
 Is := fun h l items => h.IsList l items
 obj := fun l => { cls := .type "list_iterator", data := .fields #[.ref l, .int 0 0] }
 get := fun {X pins σ H s a xs} hK I q => by subst hK; obtain ⟨its, r, p, z⟩ := I.list q; exact ⟨its, r, p.isList, z⟩
 inj := fun {X pins σ H s a xs ys} hK I q q' => by subst hK; exact I.list_inj q q'
 draws := fun A hh it l hne items => Draws.list hh it l hne items
 ito := fun {h it l i} ⟨o, e, c, d⟩ => ⟨o, e, fun v z => by rw [d] at z; cases z⟩
 itk := fun {h h' it l i} x k => x.at k
 isk := fun {h h' l items} x k => x.at k
 iso := fun {h l items} ⟨o, e, _⟩ => ⟨o, e⟩
 ok := True
 itn := fun _ h l => ⟨_, Heap.get?_push_size _ rfl, rfl, rfl⟩
def seqT (P : Program) (w : World) (K : PySem.W.Frag) : SeqK P w K where
  Sq := fun H a xs => SqT K H a xs
  It := fun h it l i => h.IsTupleIter it l i
  Is := fun h l items => h.IsTuple l items
  obj := fun l => { cls := .type "tuple_iterator", data := .fields #[.ref l, .int 0 0] }
  get := fun {X pins σ H s a xs} hK I q => by subst hK; obtain ⟨its, r, p, z⟩ := I.tuple q; exact ⟨its, r, p, z⟩
  inj := fun {X pins σ H s a xs ys} hK I q q' => by subst hK; exact I.tuple_inj q q'
  draws := fun A hh it l hne items =>
    { live := fun _ _ st => let ⟨o, ho, _⟩ := st.1; ⟨o, ho⟩
      frame := fun _ _ _ st hk => ⟨let ⟨o, e, r⟩ := st.1; ⟨o, hk it (by simp) o e, r⟩, let ⟨o, e, r⟩ := st.2; ⟨o, hk l (by simp) o e, r⟩⟩
      item := fun i s Q E hi st hQ => nextT_item st.1 st.2 (x := items[i]) (by simp [hi]) fun h' hit' hs' => hQ _ h' s.toks (by simp [hi]) ⟨hit', st.2.extBut hs'.extBut hne⟩ hs'
      done := fun s Q E st hE => nextT_end hh st.1 st.2 (by simp) hE }
  ito := fun {h it l i} ⟨o, e, c, d⟩ => ⟨o, e, fun v z => by rw [d] at z; cases z⟩
  itk := fun {h h' it l i} ⟨o, e, r⟩ k => ⟨o, k o e, r⟩
  isk := fun {h h' l items} ⟨o, e, r⟩ k => ⟨o, k o e, r⟩
  iso := fun {h l items} ⟨o, e, _⟩ => ⟨o, e⟩
  ok := True
  itn := fun _ h l => ⟨_, Heap.get?_push_size _ rfl, rfl, rfl⟩
end L2

end

section
namespace L2
open PySem PySem.Spec PyProof.Rows
open AutoSeq1 (wpAny_loadPart')
theorem Inv.yielded {X : Cx} {pins : List (Addr × Obj)} {σ : St} {H : Hp} {s : Shared} {wr : List Addr} {h' : Heap} {tk : Nat} {T : Addr} {vs : List V} {us : List Value} (I : Inv X pins σ H s) (hf : ∀ b ∈ wr, FpOk X pins H b)
  (k : ∀ b o, b ∉ wr → s.heap.get? b = some o → h'.get? b = some o) (hT : s.heap.objs.size ≤ T) (ht : IsTup h' T us.toArray) (rv : Vals vs us) (hz : vs.length ≤ sizeLine) :
  Inv X pins σ (upd H T (.tup vs)) { s with heap := h', toks := tk } := by
 have hfr : H T = none := I.hok.fresh hT
 have nT : ∀ b u, H b = some u → b ≠ T := fun b u e => ne_of_none e hfr
 have nW : ∀ b u, H b = some u → b ∉ wr := fun b u e z => by have := (hf b z).1; rw [e] at this; cases this
 refine I.step (g' := s.gens) (d' := s.drawn) (ch := wr) (fun b hb => let f := hf b hb; ⟨f.2.2.2.1, f.2.1, f.2.2.2.2.1, f.2.2.2.2.2⟩) (fun b o _ _ hc e _ => k b o hc e) (fun b o _ _ hc e _ => ⟨o.slots, k b o hc e⟩)
  (fun b o hc e n => ?_) (fun b o hc e => ⟨o, k b o hc e⟩) (fun b xs e => by rw [upd_ne (nT b _ e)]; exact e) (fun b o xs e => by rw [upd_ne (nT b _ e)]; exact e) (fun b ps e => ⟨#[], by rw [upd_ne (nT b _ e), e]; simp⟩) (fun m hm => ?_) (fun b u e => ?_) I.bare
 ·rw [upd_ne (Nat.ne_of_lt (Nat.lt_of_lt_of_le (Heap.lt_size e) hT))]; exact n
 ·obtain ⟨o, es, ep, ho, r⟩ := hm
  exact ⟨o, es, ep, k _ o (fun z => (hf _ z).2.1 rfl) ho, r⟩
 ·by_cases hb : b = T
  ·subst hb
   rw [upd_same] at e; cases e
   exact ⟨hz, us, rv, ht⟩
  ·rw [upd_ne hb] at e
   refine (I.hok b u e).stay (fun c v hc q => k c v ?_ q) (fun c q => by rw [upd_ne (nT c _ q)]; exact q) fun c xs q => by rw [upd_ne (nT c _ q)]; exact q
   rcases hc with z | z
   ·rw [z]; exact nW b u e
   ·exact nW c _ z
theorem Inv.ended {X : Cx} {pins : List (Addr × Obj)} {σ : St} {H : Hp} {s : Shared} {wr : List Addr} {h' : Heap} {tk : Nat} (I : Inv X pins σ H s) (hf : ∀ b ∈ wr, FpOk X pins H b)
  (k : ∀ b o, b ∉ wr → s.heap.get? b = some o → h'.get? b = some o) : Inv X pins σ H { s with heap := h', toks := tk } := by
 have nW : ∀ b u, H b = some u → b ∉ wr := fun b u e z => by have := (hf b z).1; rw [e] at this; cases this
 refine I.step (g' := s.gens) (d' := s.drawn) (ch := wr) (fun b hb => let f := hf b hb; ⟨f.2.2.2.1, f.2.1, f.2.2.2.2.1, f.2.2.2.2.2⟩) (fun b o _ _ hc e _ => k b o hc e) (fun b o _ _ hc e _ => ⟨o.slots, k b o hc e⟩)
  (fun b o hc e n => n) (fun b o hc e => ⟨o, k b o hc e⟩) (fun b xs e => e) (fun b o xs e => e) (fun b ps e => ⟨#[], by rw [e]; simp⟩) (fun m hm => ?_) (fun b u e => ?_) I.bare
 ·obtain ⟨o, es, ep, ho, r⟩ := hm
  exact ⟨o, es, ep, k _ o (fun z => (hf _ z).2.1 rfl) ho, r⟩
 ·refine (I.hok b u e).stay (fun c v hc q => k c v ?_ q) (fun c q => q) fun c xs q => q
  rcases hc with z | z
  ·rw [z]; exact nW b u e
  ·exact nW c _ z
def Ite {P : Program} {w : World} {K : PySem.W.Frag} (S : SeqK P w K) (a : Addr) : It :=
 ⟨fun i H => ∃ xs x, S.Sq H a xs ∧ xs[i]? = some x, fun i H v H' => ∃ T, v = .ref T ∧ H T = none ∧ ∀ xs x, S.Sq H a xs → xs[i]? = some x → H' = upd H T (.tup [.int i, x]), fun i H => ∃ xs, S.Sq H a xs ∧ xs.length = i⟩
theorem turn_enum {P : Program} {w : World} {K : PySem.W.Frag} (S : SeqK P w K) {es : List Expr} {k : Nat} {pos : Pos} (a e it : Addr) (hei : e ≠ it) (hai : a ≠ it) (hae : a ≠ e) :
  Turn P w K (.Tuple es k pos) (Ite S a) [e, it] e (fun i h => (∃ old, IsEnum h e it (i : Nat) old) ∧ S.It h it a i) where
 mem := by simp
 obj := fun i h st b hb => by
  obtain ⟨⟨old, he⟩, hi⟩ := st
  rcases List.mem_cons.mp hb with z | hb
  ·rw [z]; exact ⟨_, he, fun v z => by
    have z' : Data.fields _ = Data.cell v := z
    cases z'⟩
  ·rw [List.mem_singleton.mp hb]; exact S.ito hi
 keep := fun i h h' st kk => by
  obtain ⟨⟨old, he⟩, hi⟩ := st
  exact ⟨⟨old, kk e (by simp) _ he⟩, S.itk hi fun o q => kk it (by simp) o q⟩
 item := by
  intro X hP hw hK hc i pins s σ H E I hf st hg
  subst hP hw
  obtain ⟨xs, x, hq, hx⟩ := hg
  obtain ⟨its, rv, is, hz⟩ := S.get hK I hq
  obtain ⟨u, hu, ru⟩ := rv.get hx
  have W := WalksT.enumerateD (S.draws X.A.in1 (I.ok.hd hc) it a hai its.toArray) e hei (by simp [hei, Ne.symm hae]) (by simp)
  have hi : i < its.toArray.size := by have := (List.getElem?_eq_some_iff.mp hu).1; simpa using this
  refine W.item i s _ _ hi ⟨st.1, st.2, is⟩ fun T vals h1 tk hp hT htup hmid hk => ⟨_, rfl, ?_⟩
  obtain ⟨t, y, hy, hv⟩ := hp
  have ey : y = u := by
   have q : its.toArray[i]? = some u := by simpa using hu
   rw [q] at hy; exact (Option.some.inj hy).symm
  subst ey hv
  refine W.go es k pos i T { s with heap := h1, toks := tk } _ _ hmid fun h2 st2 hk2 => ?_
  have kk : ∀ b o, b ∉ [e, it] → s.heap.get? b = some o → h2.get? b = some o := fun b o hb q => hk2 b o hb (hk b o hb q)
  have htup2 : IsTup h2 T [Value.int i t, y].toArray := by
   obtain ⟨o, q, r⟩ := htup
   exact ⟨o, hk2 T o (W.apart i T h1 hmid) q, r⟩
  exact ⟨.ref T, upd H T (.tup [.int i, x]), I.yielded (tk := tk) (fun b hb => hf b hb) kk hT htup2 (.cons ⟨t, rfl⟩ (.cons ru .nil)) (by show 2 ≤ sizeLine; decide), rfl,
   ⟨T, rfl, I.hok.fresh hT, fun ys z hy hz => by
    rw [S.inj hK I hy hq, hx] at hz; cases hz; rfl⟩, ⟨st2.1, st2.2.1⟩, fun b hb => by
    have hbt : b < s.heap.objs.size := by
     rcases List.mem_cons.mp hb with z | hb
     ·rw [z]; obtain ⟨old, q⟩ := st.1; exact Heap.lt_size q
     ·rw [List.mem_singleton.mp hb]; obtain ⟨o, q, _⟩ := S.ito st.2; exact Heap.lt_size q
    rw [upd_ne (Nat.ne_of_lt (Nat.lt_of_lt_of_le hbt hT))]; exact (hf b hb).1⟩
 done := by
  intro X hP hw hK hc i pins s σ H E I hf st hg
  subst hP hw
  obtain ⟨xs, hq, hx⟩ := hg
  obtain ⟨its, rv, is, hz⟩ := S.get hK I hq
  have W := WalksT.enumerateD (S.draws X.A.in1 (I.ok.hd hc) it a hai its.toArray) e hei (by simp [hei, Ne.symm hae]) (by simp)
  have hn : its.toArray.size = i := by have := rv.length; simp; omega
  rw [hn] at W
  exact W.done s _ _ ⟨st.1, st.2, is⟩ fun h' tk hk => ⟨rfl, I.ended (tk := tk) (fun b hb => hf b hb) hk⟩
 self := fun _ _ _ _ _ st h => by
  obtain ⟨⟨old, he⟩, _⟩ := st
  exact wpAny_pyIter_enum he h
theorem meets_enumT (l : Addr) (items : Array Value) :
    Meets (Builtin.«enumerate.__new__» ⟨[.type "enumerate", .ref l], []⟩) (fun _ R s => s.heap.IsTuple l items ∧ R (.ok (.ret (.ref (s.heap.push { cls := .type "tuple_iterator", data := .fields #[.ref l, .int 0 0] }).objs.size)))
        { s with heap := (s.heap.push { cls := .type "tuple_iterator", data := .fields #[.ref l, .int 0 0] }).push { cls := .type "enumerate", data := .fields #[.none, .bool false, .ref s.heap.objs.size, rawInt 0, .none, .none] } }) :=
  .of_wp fun prog w A R s h => by
    obtain ⟨hp, g, d, tk, os⟩ := s; obtain ⟨hl0, h⟩ := h
    obtain ⟨⟨c0, dct, dt, sl⟩, hl, hc0, n, hd0⟩ := id hl0; replace hc0 : c0 = .type "tuple" := hc0; replace hd0 : dt = .seq items n := hd0; subst hc0 hd0
    have hsub := sub_enumerate; have hL : Heap.IsTuple (Shared.heap ⟨hp, g, d, tk, os⟩) l items := ⟨_, hl, rfl, n, rfl⟩
    wp_walk using wpAny_loadPart' hl
    refine wpAny_stack_any fun st => wpAny_pure ?_; split
    · rename_i c _ _ _ _ _; cases (c == Value.type "enumerate")
      · wp_walk using wpAny_loadPart' hl, wpAny_pyIter_tuple hL; exact ⟨_, rfl, h⟩
      · wp_walk using wpAny_loadPart' hl, wpAny_pyIter_tuple hL; exact ⟨_, rfl, h⟩
    · wp_walk using wpAny_loadPart' hl, wpAny_pyIter_tuple hL; exact ⟨_, rfl, h⟩
theorem call_enumT {prog : Program} {w : World} {A : Around} {E : Value → Shared → Prop} {s : Shared} {l : Addr} {items : Array Value} {Q : Value → Shared → Prop} (hL : s.heap.IsTuple l items)
  (h : ∀ h', IsEnum h' (s.heap.objs.size + 1) s.heap.objs.size 0 .none → h'.IsTupleIter s.heap.objs.size l 0 → h'.objs.size = s.heap.objs.size + 2 → (∀ b o, s.heap.get? b = some o → h'.get? b = some o) → Q (.ref (s.heap.objs.size + 1)) { s with heap := h' }) :
  wpAny (model prog w) A (call (.type "enumerate") [.ref l]) Q E s := by
 refine callType_new F.called_enumerate (by decide) (F.typeCall_enumerate_1 _) (F.newCall_enumerate_1 _) (fun obj => F.args_object_init_2 obj _) F.entry_enumerate_new (meets_enumT l items) ⟨hL, ?_⟩
 have hz : (s.heap.push { cls := .type "tuple_iterator", data := .fields #[.ref l, .int 0 0] }).objs.size = s.heap.objs.size + 1 := Heap.size_push ..
 show _ ∧ _; rw [hz]
 have he : IsEnum ((s.heap.push { cls := .type "tuple_iterator", data := .fields #[.ref l, .int 0 0] }).push { cls := .type "enumerate", data := .fields #[.none, .bool false, .ref s.heap.objs.size, rawInt 0, .none, .none] }) (s.heap.objs.size + 1) s.heap.objs.size 0 .none := by
  have := Heap.get?_push_size (s.heap.push { cls := .type "tuple_iterator", data := .fields #[.ref l, .int 0 0] }) (o := { cls := .type "enumerate", data := .fields #[.none, .bool false, .ref s.heap.objs.size, rawInt 0, .none, .none] }) rfl
  rw [hz] at this; exact this
 exact ⟨⟨_, he, rfl⟩, h _ he ⟨_, Heap.get?_push_of_some _ (Heap.get?_push_size _ rfl), rfl, rfl⟩ (by rw [Heap.size_push, hz]) fun b o x => Heap.get?_push_of_some _ (Heap.get?_push_of_some _ x)⟩
def iEnum {P : Program} {w : World} {K : PySem.W.Frag} (S : SeqK P w K) (ta : TA) : TI := fun σ H R => ta σ H fun vs H1 => ∃ a, vs = [.ref a] ∧ (∃ xs, S.Sq H1 a xs) ∧ R (Ite S a) H1
theorem pi_enumL {X : Cx} {es : List Expr} {k : Nat} {p pos pos' : Pos} {a : Expr} {ta : TA} (hg : Gl X "enumerate") (hm : X.mg "enumerate" = none) (ha : PA X [a] ta) (hs : starEach [a] X.env = [(false, eval a X.env)] := by rfl) :
  PI X (.Tuple es k pos') (.Call (.Name "enumerate" p) [a] [] pos) (iEnum (seqL X.prog X.w X.K) ta) := by
 intro pins s σ H R I h
 refine Call_ (ld_blt I hg hm boot_enumerate (PyProof.Rows.callWith_type1 (thn (ha pos pins s σ H _ I h) fun us s1 ⟨vs, H1, I1, r1, q1⟩ => ?_) hs rfl))
 obtain ⟨l, e, ⟨xs, hq⟩, q⟩ := q1
 subst e
 obtain ⟨u, rfl, ru⟩ := r1.one
 cases ru
 obtain ⟨its, rv, is, hz⟩ := I1.list hq
 obtain ⟨ol, hol⟩ := (seqL X.prog X.w X.K).iso is.isList
 have hlt := Heap.lt_size hol
 refine call_enumerate_list is.isList fun h' hE hI hsz hk => ?_
 have I2 : Inv X pins σ H1 { s1 with heap := h' } := I1.kept (t' := s1.toks) hk
 refine wpAny_pyIter_enum hE ⟨s1.heap.objs.size + 1, [s1.heap.objs.size + 1, s1.heap.objs.size], _, _, H1, rfl, I2, turn_enum (seqL X.prog X.w X.K) l (s1.heap.objs.size + 1) s1.heap.objs.size (Nat.succ_ne_self _) (Nat.ne_of_lt hlt) (Nat.ne_of_lt (Nat.lt_succ_of_lt hlt)), ⟨⟨_, hE⟩, hI⟩, fun b hb => ?_, q⟩
 rcases List.mem_cons.mp hb with z | hb
 ·rw [z]; exact I1.fpOk (Nat.le_succ _) (I1.hok.fresh (Nat.le_succ _))
 ·rw [List.mem_singleton.mp hb]; exact I1.fpOk (Nat.le_refl _) (I1.hok.fresh (Nat.le_refl _))
theorem pi_enumT {X : Cx} {es : List Expr} {k : Nat} {p pos pos' : Pos} {a : Expr} {ta : TA} (hg : Gl X "enumerate") (hm : X.mg "enumerate" = none) (ha : PA X [a] ta) (hs : starEach [a] X.env = [(false, eval a X.env)] := by rfl) :
  PI X (.Tuple es k pos') (.Call (.Name "enumerate" p) [a] [] pos) (iEnum (seqT X.prog X.w X.K) ta) := by
 intro pins s σ H R I h
 refine Call_ (ld_blt I hg hm boot_enumerate (PyProof.Rows.callWith_type1 (thn (ha pos pins s σ H _ I h) fun us s1 ⟨vs, H1, I1, r1, q1⟩ => ?_) hs rfl))
 obtain ⟨l, e, ⟨xs, hq⟩, q⟩ := q1
 subst e
 obtain ⟨u, rfl, ru⟩ := r1.one
 cases ru
 obtain ⟨its, rv, is, hz⟩ := I1.tuple hq
 obtain ⟨ol, hol, hol2⟩ := id is
 have hlt := Heap.lt_size hol
 refine call_enumT (items := its.toArray) ⟨ol, hol, hol2⟩ fun h' hE hI hsz hk => ?_
 have I2 : Inv X pins σ H1 { s1 with heap := h' } := I1.kept (t' := s1.toks) hk
 refine wpAny_pyIter_enum hE ⟨s1.heap.objs.size + 1, [s1.heap.objs.size + 1, s1.heap.objs.size], _, _, H1, rfl, I2, turn_enum (seqT X.prog X.w X.K) l (s1.heap.objs.size + 1) s1.heap.objs.size (Nat.succ_ne_self _) (Nat.ne_of_lt hlt) (Nat.ne_of_lt (Nat.lt_succ_of_lt hlt)), ⟨⟨_, hE⟩, hI⟩, fun b hb => ?_, q⟩
 rcases List.mem_cons.mp hb with z | hb
 ·rw [z]; exact I1.fpOk (Nat.le_succ _) (I1.hok.fresh (Nat.le_succ _))
 ·rw [List.mem_singleton.mp hb]; exact I1.fpOk (Nat.le_refl _) (I1.hok.fresh (Nat.le_refl _))
end L2

end

section
namespace L2
open PySem PySem.Spec PyProof.Rows
open AutoSeq1 (wpAny_loadPart')
def Dr {P : Program} {w : World} {K : PySem.W.Frag} (S : SeqK P w K) (it l : Addr) (xs : Array Value) (k : Nat) (h : Heap) : Prop := S.It h it l k ∧ S.Is h l xs
theorem Dr.ext {P : Program} {w : World} {K : PySem.W.Frag} {S : SeqK P w K} {it l b : Addr} {xs : Array Value} {k : Nat} {h h' : Heap} (d : Dr S it l xs k h) (e : Heap.ExtBut b h h') (h1 : it ≠ b) (h2 : l ≠ b) : Dr S it l xs k h' :=
 ⟨S.itk d.1 fun o q => e it o h1 q, S.isk d.2 fun o q => e l o h2 q⟩
abbrev IsZipF (h : Heap) (z TI TO : Addr) (f0 f1 : Value) : Prop := h.get? z = some { cls := .type "zip", dict := none, data := .fields #[f0, f1, .bool false, .ref TI, .ref TO], slots := #[] }
def ZipAny (h : Heap) (z TI TO : Addr) : Prop := ∃ f0 f1, IsZipF h z TI TO f0 f1 ∧ (f0 = .none ∨ ∃ T : Addr, f0 = rawInt T) ∧ (f1 = .bool false ∨ f1 = .bool true)
theorem wpAny_alive {M : Model} {A : Around} {E : Value → Shared → Prop} {s : Shared} {a : Addr} {Q : Option Obj → Shared → Prop} (h : Q (s.heap.get? a) s) : wpAny M A (loadIfAlive a) Q E s := fun _ _ _ => h
theorem own_is {P : Program} {w : World} {A : Around} {E : Value → Shared → Prop} {s : Shared} {z TI TO : Addr} {Q : Bool → Shared → Prop} (hz : ZipAny s.heap z TI TO) (h1 : ∀ f0 f1, IsZipF s.heap z TI TO f0 f1 → Q true s)
  (h2 : ∀ g0, ∀ T : Addr, ∀ f1 f2, IsZipF s.heap z TI TO (rawInt T) f1 → IsZipF g0 z TI TO (rawInt T) f2 → (f2 = .bool false ∨ f2 = .bool true) → Heap.SameBut z s.heap g0 → Q false { s with heap := g0 }) :
  wpAny (model P w) A (Builtin.SmallTypes.ownedTupleIsFree (.ref z)) Q E s := by
 obtain ⟨f0, f1, hz, hf0, hf1⟩ := hz
 unfold Builtin.SmallTypes.ownedTupleIsFree
 refine wpAny_bind (wpAny_field hz rfl (x := f0) rfl ?_)
 rcases hf0 with rfl | ⟨T, rfl⟩
 ·exact wpAny_pure (h1 _ _ hz)
 ·show wpAny _ _ (loadIfAlive T >>= _) _ _ _
  refine wpAny_bind (wpAny_alive ?_)
  cases hTa : s.heap.get? T with
  | none =>
   simp only [Option.isNone_none, if_true]
   exact wpAny_pure (h1 _ _ hz)
  | some oT =>
   simp only [Option.isNone_some, Bool.false_eq_true, if_false]
   show wpAny _ _ (field (.ref z) 1 >>= _) _ _ _
   refine wpAny_bind (wpAny_field hz rfl (x := f1) rfl ?_)
   rcases hf1 with rfl | rfl
   ·exact wpAny_bind (wpAny_setField_rec hz (by simp) fun g0 hz0 hs0 => wpAny_pure (h2 g0 T _ _ hz hz0 (.inr rfl) hs0))
   ·exact wpAny_bind (wpAny_pure (wpAny_pure (h2 s.heap T _ _ hz hz (.inr rfl) ⟨rfl, fun _ _ => rfl⟩)))
structure ZA2 (z TI TO i1 i2 l1 l2 : Addr) : Prop where
 TI_z : TI ≠ z
 TO_z : TO ≠ z
 TO_TI : TO ≠ TI
 i1_z : i1 ≠ z
 i1_TI : i1 ≠ TI
 i1_TO : i1 ≠ TO
 i2_z : i2 ≠ z
 i2_TI : i2 ≠ TI
 i2_TO : i2 ≠ TO
 i2_i1 : i2 ≠ i1
 l1_z : l1 ≠ z
 l1_TO : l1 ≠ TO
 l1_i1 : l1 ≠ i1
 l1_i2 : l1 ≠ i2
 l2_z : l2 ≠ z
 l2_TO : l2 ≠ TO
 l2_i1 : l2 ≠ i1
 l2_i2 : l2 ≠ i2
abbrev IsT2 (h : Heap) (T : Addr) (a1 a2 : Value) : Prop := h.get? T = some { cls := .type "tuple", data := .seq #[a1, a2] }
theorem upd_T2 {prog : Program} {w : World} {A : Around} {E : Value → Shared → Prop} {s : Shared} {T : Addr} {a1 a2 x : Value} {k : Nat} {Q : Unit → Shared → Prop} (hT : IsT2 s.heap T a1 a2)
  (h : ∀ h', h'.get? T = some { cls := .type "tuple", data := .seq ((#[a1, a2] : Array Value).setIfInBounds k x) } → Heap.SameBut T s.heap h' → Q () { s with heap := h' }) :
  wpAny (model prog w) A (updateSeq T (·.setIfInBounds k x)) Q E s := by
 have got := Heap.get?_update_self (Obj.mapSeq fun y => y.setIfInBounds k x) hT rfl
 exact wpAny_updateSeq hT rfl (h _ (got.trans (by simp [Obj.mapSeq])) (Heap.SameBut.update ..))
section
variable {P : Program} {w : World} {K : PySem.W.Frag} {A : Around} {E : Value → Shared → Prop} {s : Shared} (S1 S2 : SeqK P w K)
theorem zipF_item2 {z TI TO i1 i2 l1 l2 : Addr} {k : Nat} {xs1 xs2 : Array Value} {x1 x2 a1 a2 : Value} {Q : Value → Shared → Prop} (hh : A.handled = none) (D : ZA2 z TI TO i1 i2 l1 l2) (hz : ZipAny s.heap z TI TO) (hTI : IsT2 s.heap TI (.ref i1) (.ref i2)) (hTO : IsT2 s.heap TO a1 a2) (h1 : Dr S1 i1 l1 xs1 k s.heap) (h2 : Dr S2 i2 l2 xs2 k s.heap) (hx1 : xs1[k]? = some x1) (hx2 : xs2[k]? = some x2)
  (hQ : ∀ h' tk, ZipAny h' z TI TO → (IsZip h' z TI TO (rawInt s.heap.objs.size) ∨ IsZip s.heap z TI TO .none → IsZip h' z TI TO (rawInt s.heap.objs.size)) → (∃ a1 a2, IsT2 h' TO a1 a2) → Dr S1 i1 l1 xs1 (k + 1) h' → Dr S2 i2 l2 xs2 (k + 1) h' → IsT2 h' s.heap.objs.size x1 x2 → h'.objs.size = s.heap.objs.size + 1 →
   (∀ c o, c ≠ z → c ≠ TO → c ≠ i1 → c ≠ i2 → s.heap.get? c = some o → h'.get? c = some o) → Q (.ref s.heap.objs.size) { s with heap := h', toks := tk }) :
  wpAny (model P w) A (Builtin.«zip.__next__» ⟨[.ref z], []⟩) (fun fin s' => ∃ v, fin = .done (.ret v) ∧ Q v s') E s := by
 have hl1 : k < xs1.size := (Array.getElem?_eq_some_iff.mp hx1).1
 have hl2 : k < xs2.size := (Array.getElem?_eq_some_iff.mp hx2).1
 have D1 := fun (A : Around) (hh : A.handled = none) => S1.draws A hh i1 l1 D.l1_i1 xs1
 have D2 := fun (A : Around) (hh : A.handled = none) => S2.draws A hh i2 l2 D.l2_i2 xs2
 obtain ⟨f0', f1', hz', hf0', hf1'⟩ := id hz
 show wpAny _ _ (field (.ref z) 2 >>= _) _ _ _; refine wpAny_bind (wpAny_field hz' rfl (x := .bool false) rfl ?_)
 show wpAny _ _ (field (.ref z) 3 >>= _) _ _ _; refine wpAny_bind (wpAny_field hz' rfl (x := .ref TI) rfl ?_)
 refine wpAny_bind (wpAny_seqItems hTI rfl ?_); show wpAny _ _ (Builtin.SmallTypes.ownedTupleIsFree (.ref z) >>= _) _ _ _
 refine wpAny_bind (own_is hz (fun f0 f1 hz => ?_) fun g0 T f1 f2 hzs hz0 hf2 hs0 => ?_)
 ·simp only [if_true]
  refine wpAny_bind (wpAny_rule ?_); refine wpAny_bind (wpAny_field hz rfl (x := .ref TO) rfl ?_)
  refine wpAny_bind (wpAny_setField_rec hz (by simp) fun g0 hz0 hs0 => ?_); replace hz0 : IsZipF g0 z TI TO .ellipsis f1 := hz0
  refine wpAny_bind ?_; simp only [List.zipIdx_cons, List.zipIdx_nil, List.forIn_cons, List.forIn_nil]
  refine wpAny_bind (wpAny_bind (wpAny_onRaise ?_)); show wpAny _ _ (Builtin.SmallTypes.nextOf (.ref i1) >>= _) _ _ _
  refine wpAny_bind ((D1 _ hh).item k _ _ _ hl1 (Dr.ext h1 hs0.extBut D.i1_z D.l1_z) fun y1 g1 tk1 hy1 hd1 hs1 => wpAny_pure ?_)
  have ex1 : y1 = x1 := by rw [hx1] at hy1; exact (Option.some.inj hy1).symm
  subst ex1
  have hd1' : Dr S1 i1 l1 xs1 (k + 1) g1 := hd1
  have hT1 : IsT2 g1 TO a1 a2 := (hs1.extBut _ _ D.i1_TO.symm (hs0.extBut _ _ D.TO_z hTO))
  refine wpAny_bind (wpAny_seqItems hT1 rfl ?_); refine wpAny_bind (upd_T2 hT1 fun g2 hU1 hs2 => ?_)
  replace hU1 : IsT2 g2 TO y1 a2 := hU1
  refine wpAny_bind (wpAny_letGo (wpAny_pure ?_))
  refine wpAny_bind (wpAny_bind (wpAny_onRaise ?_)); show wpAny _ _ (Builtin.SmallTypes.nextOf (.ref i2) >>= _) _ _ _
  refine wpAny_bind ((D2 _ hh).item k _ _ _ hl2 (Dr.ext (Dr.ext (Dr.ext h2 hs0.extBut D.i2_z D.l2_z) hs1.extBut D.i2_i1 D.l2_i1) hs2.extBut D.i2_TO D.l2_TO) fun y2 g3 tk2 hy2 hd2 hs3 => wpAny_pure ?_)
  have ex2 : y2 = x2 := by rw [hx2] at hy2; exact (Option.some.inj hy2).symm
  subst ex2
  have hd2' : Dr S2 i2 l2 xs2 (k + 1) g3 := hd2
  have hT2 : IsT2 g3 TO y1 a2 := (hs3.extBut _ _ D.i2_TO.symm hU1)
  refine wpAny_bind (wpAny_seqItems hT2 rfl ?_); refine wpAny_bind (upd_T2 hT2 fun g4 hU2 hs4 => ?_)
  replace hU2 : IsT2 g4 TO y1 y2 := hU2
  refine wpAny_bind (wpAny_letGo (wpAny_pure (wpAny_pure ?_)))
  refine wpAny_bind (wpAny_seqItems hU2 rfl ?_); refine wpAny_bind (wpAny_newTuple ?_)
  have hsz : g4.objs.size = s.heap.objs.size := by rw [hs4.1, hs3.1, hs2.1, hs1.1, hs0.1]
  have hz5 : IsZipF g4 z TI TO .ellipsis f1 := (hs4.extBut _ _ D.TO_z.symm (hs3.extBut _ _ D.i2_z.symm (hs2.extBut _ _ D.TO_z.symm (hs1.extBut _ _ D.i1_z.symm hz0))))
  have hk5 : ∀ c o, c ≠ z → c ≠ TO → c ≠ i1 → c ≠ i2 → s.heap.get? c = some o → g4.get? c = some o := fun c o cz cTO ci1 ci2 e => (hs4.extBut _ _ cTO (hs3.extBut _ _ ci2 (hs2.extBut _ _ cTO (hs1.extBut _ _ ci1 (hs0.extBut _ _ cz e)))))
  have he1 : Dr S1 i1 l1 xs1 (k + 1) g4 := (Dr.ext (Dr.ext (Dr.ext hd1' hs2.extBut D.i1_TO D.l1_TO) hs3.extBut D.i2_i1.symm D.l1_i2) hs4.extBut D.i1_TO D.l1_TO)
  have he2 : Dr S2 i2 l2 xs2 (k + 1) g4 := (Dr.ext hd2' hs4.extBut D.i2_TO D.l2_TO)
  have hzlt : z < g4.objs.size := Heap.lt_size hz5
  show wpAny _ _ (Builtin.SmallTypes.ownedTupleHandOut (.ref z) (.ref g4.objs.size) >>= _) _ _ _; refine wpAny_bind ?_; unfold Builtin.SmallTypes.ownedTupleHandOut
  have hz6 : IsZipF (g4.push { cls := .type "tuple", data := .seq #[y1, y2] }) z TI TO .ellipsis f1 := Heap.get?_push_of_some _ hz5
  refine wpAny_bind (wpAny_setField_rec hz6 (by simp) fun ga hza hsa => ?_); replace hza : IsZipF ga z TI TO (rawInt g4.objs.size) f1 := hza
  refine wpAny_setField_rec hza (by simp) fun gb hzb hsb => ?_; replace hzb : IsZipF gb z TI TO (rawInt g4.objs.size) (.bool false) := hzb
  have up : ∀ c o, c ≠ z → g4.get? c = some o → gb.get? c = some o := fun c o c1 e => hsb.extBut _ _ c1 (hsa.extBut _ _ c1 (Heap.get?_push_of_some _ e))
  have hTb : IsT2 gb g4.objs.size y1 y2 := hsb.extBut _ _ (Nat.ne_of_gt hzlt) (hsa.extBut _ _ (Nat.ne_of_gt hzlt) (Heap.get?_push_size _ rfl))
  have hsb8 : gb.objs.size = g4.objs.size + 1 := by rw [hsb.1, hsa.1, Heap.size_push]
  have upE : Heap.ExtBut z g4 gb := fun c o c1 e => up c o c1 e
  rw [hsz] at hzb hTb hsb8
  refine wpAny_pure ⟨_, rfl, ?_⟩; show Q (.ref g4.objs.size) _; rw [hsz]
  exact hQ gb _ ⟨_, _, hzb, .inr ⟨_, rfl⟩, .inl rfl⟩ (fun _ => hzb) ⟨_, _, up _ _ D.TO_z hU2⟩ (he1.ext upE D.i1_z D.l1_z) (he2.ext upE D.i2_z D.l2_z) hTb hsb8 fun c o cz cTO ci1 ci2 e => up c o cz (hk5 c o cz cTO ci1 ci2 e)
 ·simp only [Bool.false_eq_true, if_false]
  refine wpAny_bind ?_; simp only [← Array.forIn_toList, List.forIn_cons, List.forIn_nil]
  refine wpAny_bind (wpAny_bind (wpAny_holding ?_)); show wpAny _ _ (Builtin.SmallTypes.nextOf (.ref i1) >>= _) _ _ _
  refine wpAny_bind ((D1 _ hh).item k _ _ _ hl1 (Dr.ext h1 hs0.extBut D.i1_z D.l1_z) fun y1 g1 tk1 hy1 hd1 hs1 => wpAny_pure ?_)
  have ex1 : y1 = x1 := by rw [hx1] at hy1; exact (Option.some.inj hy1).symm
  subst ex1
  have hd1' : Dr S1 i1 l1 xs1 (k + 1) g1 := hd1
  refine wpAny_pure ?_
  refine wpAny_bind (wpAny_bind (wpAny_holding ?_)); show wpAny _ _ (Builtin.SmallTypes.nextOf (.ref i2) >>= _) _ _ _
  refine wpAny_bind ((D2 _ hh).item k _ _ _ hl2 (Dr.ext (Dr.ext h2 hs0.extBut D.i2_z D.l2_z) hs1.extBut D.i2_i1 D.l2_i1) fun y2 g2 tk2 hy2 hd2 hs2 => wpAny_pure ?_)
  have ex2 : y2 = x2 := by rw [hx2] at hy2; exact (Option.some.inj hy2).symm
  subst ex2
  have hd2' : Dr S2 i2 l2 xs2 (k + 1) g2 := hd2
  refine wpAny_pure (wpAny_pure ?_)
  show wpAny _ _ (newTuple [y1, y2] >>= _) _ _ _; refine wpAny_bind (wpAny_newTuple ?_)
  have hsz : g2.objs.size = s.heap.objs.size := by rw [hs2.1, hs1.1, hs0.1]
  have hz5 : IsZipF g2 z TI TO (rawInt T) f2 := (hs2.extBut _ _ D.i2_z.symm (hs1.extBut _ _ D.i1_z.symm hz0))
  have hT5 : IsT2 g2 TO a1 a2 := (hs2.extBut _ _ D.i2_TO.symm (hs1.extBut _ _ D.i1_TO.symm (hs0.extBut _ _ D.TO_z hTO)))
  have he1 : Dr S1 i1 l1 xs1 (k + 1) g2 := (Dr.ext hd1' hs2.extBut D.i2_i1.symm D.l1_i2)
  have he2 : Dr S2 i2 l2 xs2 (k + 1) g2 := hd2'
  have hTb : IsT2 (g2.push { cls := .type "tuple", data := .seq #[y1, y2] }) g2.objs.size y1 y2 := Heap.get?_push_size _ rfl
  have hb8 : (g2.push { cls := .type "tuple", data := .seq #[y1, y2] }).objs.size = g2.objs.size + 1 := Heap.size_push ..
  refine wpAny_pure ⟨_, rfl, ?_⟩; show Q (.ref g2.objs.size) _
  have res := hQ (g2.push { cls := .type "tuple", data := .seq #[y1, y2] }) tk2 ⟨_, _, Heap.get?_push_of_some _ hz5, .inr ⟨_, rfl⟩, hf2⟩ (fun c => c.elim id fun c => absurd (congrArg (fun o : Obj => o.data) (Option.some.inj (hzs.symm.trans c))) (by simp [rawInt])) ⟨_, _, Heap.get?_push_of_some _ hT5⟩ ⟨S1.itk he1.1 fun o q => Heap.get?_push_of_some _ q, S1.isk he1.2 fun o q => Heap.get?_push_of_some _ q⟩ ⟨S2.itk he2.1 fun o q => Heap.get?_push_of_some _ q, S2.isk he2.2 fun o q => Heap.get?_push_of_some _ q⟩ (by rw [← hsz]; exact hTb) (by rw [hb8, hsz]) fun c o cz cTO ci1 ci2 e => Heap.get?_push_of_some _ (hs2.extBut _ _ ci2 (hs1.extBut _ _ ci1 (hs0.extBut _ _ cz e)))
  rw [hsz]; exact res
theorem zipF_end2_1 {z TI TO i1 i2 l1 l2 : Addr} {k : Nat} {xs1 xs2 : Array Value} {a1 a2 : Value} {Q : Fin → Shared → Prop} (hh : A.handled = none) (D : ZA2 z TI TO i1 i2 l1 l2) (hz : ZipAny s.heap z TI TO) (hTI : IsT2 s.heap TI (.ref i1) (.ref i2)) (hTO : IsT2 s.heap TO a1 a2) (h1 : Dr S1 i1 l1 xs1 k s.heap) (h2 : Dr S2 i2 l2 xs2 k s.heap)  (hend : k = xs1.size)
  (hE : ∀ h' tk e, (∀ c o, c ≠ z → c ≠ TO → c ≠ i1 → c ≠ i2 → s.heap.get? c = some o → h'.get? c = some o) → (∃ o, h'.get? e = some o ∧ o.cls = .type "StopIteration") → E (.ref e) { s with heap := h', toks := tk }) :
  wpAny (model P w) A (Builtin.«zip.__next__» ⟨[.ref z], []⟩) Q E s := by
 have D1 := fun (A : Around) (hh : A.handled = none) => S1.draws A hh i1 l1 D.l1_i1 xs1
 have D2 := fun (A : Around) (hh : A.handled = none) => S2.draws A hh i2 l2 D.l2_i2 xs2
 obtain ⟨f0', f1', hz', hf0', hf1'⟩ := id hz
 show wpAny _ _ (field (.ref z) 2 >>= _) _ _ _; refine wpAny_bind (wpAny_field hz' rfl (x := .bool false) rfl ?_)
 show wpAny _ _ (field (.ref z) 3 >>= _) _ _ _; refine wpAny_bind (wpAny_field hz' rfl (x := .ref TI) rfl ?_)
 refine wpAny_bind (wpAny_seqItems hTI rfl ?_); show wpAny _ _ (Builtin.SmallTypes.ownedTupleIsFree (.ref z) >>= _) _ _ _
 refine wpAny_bind (own_is hz (fun f0 f1 hz => ?_) fun g0 T f1 f2 hzs hz0 hf2 hs0 => ?_)
 ·simp only [if_true]
  refine wpAny_bind (wpAny_rule ?_); refine wpAny_bind (wpAny_field hz rfl (x := .ref TO) rfl ?_)
  refine wpAny_bind (wpAny_setField_rec hz (by simp) fun g0 hz0 hs0 => ?_); replace hz0 : IsZipF g0 z TI TO .ellipsis f1 := hz0
  refine wpAny_bind ?_; simp only [List.zipIdx_cons, List.zipIdx_nil, List.forIn_cons, List.forIn_nil]
  refine wpAny_bind (wpAny_bind (wpAny_onRaise ?_)); show wpAny _ _ (Builtin.SmallTypes.nextOf (.ref i1) >>= _) _ _ _
  have hcur := (Dr.ext h1 hs0.extBut D.i1_z D.l1_z)
  subst hend
  refine wpAny_bind ((D1 _ hh).done _ _ _ hcur fun ge e hse he => ?_)
  obtain ⟨oe, hoe, hce⟩ := he
  have hze : IsZipF ge z TI TO .ellipsis f1 := hse _ _ D.i1_z.symm hz0
  have hez : e ≠ z := fun x => by subst x; rw [hze] at hoe; cases hoe; simp at hce
  exact wpAny_setField_rec hze (by simp) fun gf _ hsf => hE gf _ e (fun c o cz cTO ci1 ci2 x => hsf.extBut _ _ cz (hse _ _ ci1 (hs0.extBut _ _ cz x))) ⟨oe, hsf.extBut _ _ hez hoe, hce⟩
 ·simp only [Bool.false_eq_true, if_false]
  refine wpAny_bind ?_; simp only [← Array.forIn_toList, List.forIn_cons, List.forIn_nil]
  refine wpAny_bind (wpAny_bind (wpAny_holding ?_)); show wpAny _ _ (Builtin.SmallTypes.nextOf (.ref i1) >>= _) _ _ _
  have hcur := (Dr.ext h1 hs0.extBut D.i1_z D.l1_z)
  subst hend
  refine wpAny_bind ((D1 _ hh).done _ _ _ hcur fun ge e hse he => ?_)
  obtain ⟨oe, hoe, hce⟩ := he
  exact hE ge _ e (fun c o cz cTO ci1 ci2 x => hse _ _ ci1 (hs0.extBut _ _ cz x)) ⟨oe, hoe, hce⟩
end
abbrev y1_2 {P : Program} {w : World} {K : PySem.W.Frag} (S1 S2 : SeqK P w K) (h : Heap) (l1 l2 : Addr) : Heap := (h).push (S1.obj l1)
abbrev y2_2 {P : Program} {w : World} {K : PySem.W.Frag} (S1 S2 : SeqK P w K) (h : Heap) (l1 l2 : Addr) : Heap := (y1_2 S1 S2 h l1 l2).push (S2.obj l2)
abbrev yI_2 {P : Program} {w : World} {K : PySem.W.Frag} (S1 S2 : SeqK P w K) (h : Heap) (l1 l2 : Addr) : Heap := (y2_2 S1 S2 h l1 l2).push { cls := .type "tuple", data := .seq #[.ref h.objs.size, .ref (y1_2 S1 S2 h l1 l2).objs.size] }
abbrev yO_2 {P : Program} {w : World} {K : PySem.W.Frag} (S1 S2 : SeqK P w K) (h : Heap) (l1 l2 : Addr) : Heap := (yI_2 S1 S2 h l1 l2).push { cls := .type "tuple", data := .seq #[.none, .none] }
abbrev yZ_2 {P : Program} {w : World} {K : PySem.W.Frag} (S1 S2 : SeqK P w K) (h : Heap) (l1 l2 : Addr) : Heap := (yO_2 S1 S2 h l1 l2).push { cls := .type "zip", data := .fields #[.none, .bool false, .bool false, .ref (y2_2 S1 S2 h l1 l2).objs.size, .ref (yI_2 S1 S2 h l1 l2).objs.size] }
def ZipNew2 {P : Program} {w : World} {K : PySem.W.Frag} (S1 S2 : SeqK P w K) : Prop := S1.ok ∧ S2.ok ∧ ∀ (l1 l2 : Addr) (xs1 xs2 : Array Value),
  Meets (Builtin.«zip.__new__» ⟨[.type "zip", .ref l1, .ref l2], []⟩) (fun _ R s => S1.Is s.heap l1 xs1 ∧ S2.Is s.heap l2 xs2 ∧ R (.ok (.ret (.ref (yO_2 S1 S2 s.heap l1 l2).objs.size))) { s with heap := yZ_2 S1 S2 s.heap l1 l2 })
theorem ev_zip2 {X : Cx} {p pos : Pos} {e1 e2 : Expr} {ta : TA} (S1 S2 : SeqK X.prog X.w X.K) (zn : ZipNew2 S1 S2) (hg : Gl X "zip") (hm : X.mg "zip" = none) (ha : PA X [e1, e2] ta) (hs1 : starEach [e1, e2] X.env = [(false, eval e1 X.env), (false, eval e2 X.env)]) (hs2 : starEach [e2] X.env = [(false, eval e2 X.env)])
  {pins : List (Addr × Obj)} {s : Shared} {σ : St} {H : Hp} {R : Addr → Addr → Hp → Prop} (I : Inv X pins σ H s) (h : ta σ H fun vs H1 => ∃ l1 l2, vs = [.ref l1, .ref l2] ∧ (∃ xs, S1.Sq H1 l1 xs) ∧ (∃ xs, S2.Sq H1 l2 xs) ∧ R l1 l2 H1) :
  wpAny (model X.prog X.w) X.A (eval (.Call (.Name "zip" p) [e1, e2] [] pos) X.env) (fun v s1 => ∃ l1 l2 H1, ∃ m : Nat, v = .ref (m + 4) ∧ R l1 l2 H1 ∧ Inv X pins σ H1 s1 ∧ IsZip s1.heap (m + 4) (m + 2) (m + 3) .none ∧ IsT2 s1.heap (m + 2) (.ref m) (.ref (m + 1)) ∧ IsT2 s1.heap (m + 3) .none .none ∧ S1.It s1.heap m l1 0 ∧ S2.It s1.heap (m + 1) l2 0 ∧ l1 < m ∧ l2 < m ∧ (∀ b, m ≤ b → FpOk X pins H1 b) ∧ s1.heap.objs.size = m + 5) X.xe s := by
 refine Call_ (ld_blt I hg hm boot_zip (PyProof.Rows.callWith_type1 (thn (ha pos pins s σ H _ I h) fun us s1 ⟨vs, H1, I1, r1, q1⟩ => ?_) (by rw [hs1, hs2]) (by rw [hs2]; rfl)))
 obtain ⟨l1, l2, e, ⟨xs1, hq1⟩, ⟨xs2, hq2⟩, q⟩ := q1
 subst e
 rcases r1 with _ | ⟨ru1, r1⟩
 rcases r1 with _ | ⟨ru2, r1⟩
 cases r1
 cases ru1; cases ru2
 obtain ⟨its1, rv1, is1, _⟩ := S1.get rfl I1 hq1
 obtain ⟨its2, rv2, is2, _⟩ := S2.get rfl I1 hq2
 obtain ⟨o1, ho1⟩ := S1.iso is1
 have hl1 := Heap.lt_size ho1
 obtain ⟨o2, ho2⟩ := S2.iso is2
 have hl2 := Heap.lt_size ho2
 refine callType_new F.called_zip (by decide) (F.typeCall_zip_2 _ _) (F.newCall_zip_2 _ _) (fun obj => F.args_object_init_3 obj _ _) F.entry_zip_new (zn.2.2 l1 l2 its1.toArray its2.toArray) ⟨is1, is2, ?_⟩
 have z1 : (y1_2 S1 S2 s1.heap l1 l2).objs.size = s1.heap.objs.size + 1 := by rw [Heap.size_push]
 have z2 : (y2_2 S1 S2 s1.heap l1 l2).objs.size = s1.heap.objs.size + 2 := by rw [Heap.size_push, z1]
 have z3 : (yI_2 S1 S2 s1.heap l1 l2).objs.size = s1.heap.objs.size + 3 := by rw [Heap.size_push, z2]
 have z4 : (yO_2 S1 S2 s1.heap l1 l2).objs.size = s1.heap.objs.size + 4 := by rw [Heap.size_push, z3]
 have zz : (yZ_2 S1 S2 s1.heap l1 l2).objs.size = s1.heap.objs.size + 5 := by rw [Heap.size_push, z4]
 have gz : (yZ_2 S1 S2 s1.heap l1 l2).get? (yO_2 S1 S2 s1.heap l1 l2).objs.size = some _ := Heap.get?_push_size _ rfl
 have gO : (yZ_2 S1 S2 s1.heap l1 l2).get? (yI_2 S1 S2 s1.heap l1 l2).objs.size = some _ := Heap.get?_push_of_some _ (Heap.get?_push_size _ rfl)
 have gI : (yZ_2 S1 S2 s1.heap l1 l2).get? (y2_2 S1 S2 s1.heap l1 l2).objs.size = some _ := Heap.get?_push_of_some _ (Heap.get?_push_of_some _ (Heap.get?_push_size _ rfl))
 have g1 : S1.It (yZ_2 S1 S2 s1.heap l1 l2) s1.heap.objs.size l1 0 := S1.itk (S1.itn zn.1 _ _) fun o q => Heap.get?_push_of_some _ (Heap.get?_push_of_some _ (Heap.get?_push_of_some _ (Heap.get?_push_of_some _ (q))))
 have g2 : S2.It (yZ_2 S1 S2 s1.heap l1 l2) (y1_2 S1 S2 s1.heap l1 l2).objs.size l2 0 := S2.itk (S2.itn zn.2.1 _ _) fun o q => Heap.get?_push_of_some _ (Heap.get?_push_of_some _ (Heap.get?_push_of_some _ (q)))
 have kk : ∀ b o, s1.heap.get? b = some o → (yZ_2 S1 S2 s1.heap l1 l2).get? b = some o := fun b o x => Heap.get?_push_of_some _ (Heap.get?_push_of_some _ (Heap.get?_push_of_some _ (Heap.get?_push_of_some _ (Heap.get?_push_of_some _ (x)))))
 show _ ∧ _
 rw [z2, z3, z4] at gz; rw [z3] at gO; rw [z1, z2] at gI; rw [z4]
 rw [z1] at g2
 generalize yZ_2 S1 S2 s1.heap l1 l2 = hE at g1 g2 gI gO gz kk zz ⊢
 have I2 : Inv X pins σ H1 { s1 with heap := hE } := I1.kept (t' := s1.toks) kk
 exact ⟨⟨_, gz, rfl⟩, l1, l2, H1, s1.heap.objs.size, rfl, q, I2, gz, gI, gO, g1, g2, hl1, hl2, fun b hb => I1.fpOk hb (I1.hok.fresh hb), zz⟩
set_option maxHeartbeats 8000000 in
theorem zn_TL (P : Program) (w : World) (K : PySem.W.Frag) : ZipNew2 (seqT P w K) (seqL P w K) := ⟨trivial, trivial, fun l1 l2 xs1 xs2 =>
 .of_wp fun prog w A R s h => by
  obtain ⟨hp, g, d, tk, os⟩ := s; obtain ⟨hl1, hl2, h⟩ := h; have hsub := sub_zip
  have hL1 : Heap.IsTuple (Shared.heap ⟨hp, g, d, tk, os⟩) l1 xs1 := hl1
  have hL2 : Heap.IsList (Shared.heap ⟨(hp).push { cls := .type "tuple_iterator", data := .fields #[.ref l1, .int 0 0] }, g, d, tk, os⟩) l2 xs2 := Heap.IsList.push (hl2) _
  wp_walk using wpAny_pyIter_tuple hL1, wpAny_pyIter_list hL2
  exact ⟨_, rfl, h⟩⟩
set_option maxHeartbeats 8000000 in
theorem zn_TT (P : Program) (w : World) (K : PySem.W.Frag) : ZipNew2 (seqT P w K) (seqT P w K) := ⟨trivial, trivial, fun l1 l2 xs1 xs2 =>
 .of_wp fun prog w A R s h => by
  obtain ⟨hp, g, d, tk, os⟩ := s; obtain ⟨hl1, hl2, h⟩ := h; have hsub := sub_zip
  have hL1 : Heap.IsTuple (Shared.heap ⟨hp, g, d, tk, os⟩) l1 xs1 := hl1
  have hL2 : Heap.IsTuple (Shared.heap ⟨(hp).push { cls := .type "tuple_iterator", data := .fields #[.ref l1, .int 0 0] }, g, d, tk, os⟩) l2 xs2 := Heap.IsTuple.push (hl2) _
  wp_walk using wpAny_pyIter_tuple hL1, wpAny_pyIter_tuple hL2
  exact ⟨_, rfl, h⟩⟩
theorem za_apart2 {n l1 l2 : Nat} (h1 : l1 < n) (h2 : l2 < n) : ZA2 (n + 4) (n + 2) (n + 3) n (n + 1) l1 l2 := by constructor <;> intro z <;> (have z' := z; revert z'; intro z'; try (change (_ : Nat) = _ at z'); omega)
def Itz {P : Program} {w : World} {K : PySem.W.Frag} (S1 S2 : SeqK P w K) (a b : Addr) : It :=
 ⟨fun i H => ∃ xs ys x y, S1.Sq H a xs ∧ S2.Sq H b ys ∧ xs[i]? = some x ∧ ys[i]? = some y, fun i H v H' => ∃ T, v = .ref T ∧ H T = none ∧ ∀ xs ys x y, S1.Sq H a xs → S2.Sq H b ys → xs[i]? = some x → ys[i]? = some y → H' = upd H T (.tup [x, y]),
  fun i H => ∃ xs ys, S1.Sq H a xs ∧ S2.Sq H b ys ∧ xs.length = i⟩
theorem turn_zip {P : Program} {w : World} {K : PySem.W.Frag} (S1 S2 : SeqK P w K) {es : List Expr} {k : Nat} {pos : Pos} (z TI TO i1 i2 l1 l2 : Addr) (D : ZA2 z TI TO i1 i2 l1 l2) :
  Turn P w K (.Tuple es k pos) (Itz S1 S2 l1 l2) [z, TI, TO, i1, i2] z (fun i h => IsZip h z TI TO .none ∧ IsT2 h TI (.ref i1) (.ref i2) ∧ (∃ a b, IsT2 h TO a b) ∧ S1.It h i1 l1 i ∧ S2.It h i2 l2 i) where
 mem := by simp
 obj := fun i h st b hb => by
  obtain ⟨hz, hTI, ⟨a, b', hTO⟩, h1, h2⟩ := st
  simp only [List.mem_cons, List.not_mem_nil, or_false] at hb
  rcases hb with e | e | e | e | e <;> rw [e]
  ·exact ⟨_, hz, fun v q => by have q' : Data.fields _ = Data.cell v := q; cases q'⟩
  ·exact ⟨_, hTI, fun v q => by have q' : Data.seq _ _ = Data.cell v := q; cases q'⟩
  ·exact ⟨_, hTO, fun v q => by have q' : Data.seq _ _ = Data.cell v := q; cases q'⟩
  ·exact S1.ito h1
  ·exact S2.ito h2
 keep := fun i h h' st kk => by
  obtain ⟨hz, hTI, ⟨a, b', hTO⟩, h1, h2⟩ := st
  exact ⟨kk z (by simp) _ hz, kk TI (by simp) _ hTI, ⟨a, b', kk TO (by simp) _ hTO⟩, S1.itk h1 fun o q => kk i1 (by simp) o q, S2.itk h2 fun o q => kk i2 (by simp) o q⟩
 item := by
  intro X hP hw hK hc i pins s σ H E I hf st hg
  subst hP hw
  obtain ⟨xs, ys, x, y, hq1, hq2, hx, hy⟩ := hg
  obtain ⟨its1, rv1, is1, hz1⟩ := S1.get hK I hq1
  obtain ⟨its2, rv2, is2, hz2⟩ := S2.get hK I hq2
  obtain ⟨u1, hu1, ru1⟩ := rv1.get hx
  obtain ⟨u2, hu2, ru2⟩ := rv2.get hy
  obtain ⟨hz, hTI, ⟨a, b', hTO⟩, h1, h2⟩ := st
  have hh := I.ok.hd hc
  have hT : s.TypeIs (.ref z) "zip" := ⟨_, hz, rfl⟩
  unfold pyNext
  refine wpAny_bind (wpAny_attempt (wpAny_callSpecial?_slot (name := Str.ofString "__next__") hT F.slot_zip_next (wpAny_call_entry F.slot_zip_next hT F.entry_zip_next
   (zipF_item2 S1 S2 (x1 := u1) (x2 := u2) hh D ⟨_, _, hz, .inl rfl, .inl rfl⟩ hTI hTO ⟨h1, is1⟩ ⟨h2, is2⟩ (by simpa using hu1) (by simpa using hu2) fun h' tk _ az a2 a3 a4 a5 a6 hk => wpAny_pure ⟨_, rfl, ?_⟩) (F.args_zip_next_1 _))))
  obtain ⟨b1, b2, a2⟩ := a2
  refine wpAny_letOwnedTupleGo_zip (az (.inr hz)) fun h'' z1 sb => ?_
  have kk : ∀ b o, b ∉ [z, TI, TO, i1, i2] → s.heap.get? b = some o → h''.get? b = some o := fun b o hb q => sb.extBut b o (fun e => hb (by simp [e])) (hk b o (fun e => hb (by simp [e])) (fun e => hb (by simp [e])) (fun e => hb (by simp [e])) (fun e => hb (by simp [e])) q)
  have zl : z < s.heap.objs.size := Heap.lt_size hz
  have ht : IsTup h'' s.heap.objs.size [u1, u2].toArray := ⟨_, sb.extBut _ _ (Nat.ne_of_gt zl) a5, rfl, _, rfl⟩
  exact ⟨.ref s.heap.objs.size, upd H s.heap.objs.size (.tup [x, y]), I.yielded (tk := tk) (fun b hb => hf b hb) kk (Nat.le_refl _) ht (.cons ru1 (.cons ru2 .nil)) (by show 2 ≤ sizeLine; decide), rfl,
   ⟨_, rfl, I.hok.fresh (Nat.le_refl _), fun xs' ys' x' y' e1 e2 e3 e4 => by
    rw [S1.inj hK I e1 hq1, hx] at e3; rw [S2.inj hK I e2 hq2, hy] at e4; cases e3; cases e4; rfl⟩,
   ⟨z1, sb.extBut _ _ D.TI_z (hk _ _ D.TI_z D.TO_TI.symm D.i1_TI.symm D.i2_TI.symm hTI), ⟨_, _, sb.extBut _ _ D.TO_z a2⟩, S1.itk a3.1 fun o q => sb.extBut _ o D.i1_z q, S2.itk a4.1 fun o q => sb.extBut _ o D.i2_z q⟩, fun b hb => by
    have hbt : b < s.heap.objs.size := by
     simp only [List.mem_cons, List.not_mem_nil, or_false] at hb
     rcases hb with e | e | e | e | e <;> rw [e]
     ·exact zl
     ·exact Heap.lt_size hTI
     ·exact Heap.lt_size hTO
     ·obtain ⟨o, q, _⟩ := S1.ito h1; exact Heap.lt_size q
     ·obtain ⟨o, q, _⟩ := S2.ito h2; exact Heap.lt_size q
    rw [upd_ne (Nat.ne_of_lt hbt)]; exact (hf b hb).1⟩
 done := by
  intro X hP hw hK hc i pins s σ H E I hf st hg
  subst hP hw
  obtain ⟨xs, ys, hq1, hq2, hend⟩ := hg
  obtain ⟨its1, rv1, is1, hz1⟩ := S1.get hK I hq1
  obtain ⟨its2, rv2, is2, hz2⟩ := S2.get hK I hq2
  obtain ⟨hz, hTI, ⟨a, b', hTO⟩, h1, h2⟩ := st
  have hh := I.ok.hd hc
  have hT : s.TypeIs (.ref z) "zip" := ⟨_, hz, rfl⟩
  have e1 := rv1.length
  have e2 := rv2.length
  unfold pyNext
  refine wpAny_bind (wpAny_attempt (wpAny_callSpecial?_slot (name := Str.ofString "__next__") hT F.slot_zip_next (wpAny_call_entry F.slot_zip_next hT F.entry_zip_next
   (zipF_end2_1 S1 S2 hh D ⟨_, _, hz, .inl rfl, .inl rfl⟩ hTI hTO ⟨h1, is1⟩ ⟨h2, is2⟩ (by simp; omega) fun h' tk e hk he => ?_) (F.args_zip_next_1 _))))
  obtain ⟨o, ho, hco⟩ := he
  refine wpAny_bind (wpAny_isInstance (T := "StopIteration") (b := true) ⟨o, ho, hco⟩ isSubtype_stop ?_)
  exact wpAny_pure ⟨rfl, I.ended (wr := [z, TI, TO, i1, i2]) (tk := tk) (fun b hb => hf b hb) fun b o hb q => hk b o (fun e => hb (by simp [e])) (fun e => hb (by simp [e])) (fun e => hb (by simp [e])) (fun e => hb (by simp [e])) q⟩
 self := fun _ _ _ _ _ st h => wpAny_pyIter_zip st.1 h
def iZip {P : Program} {w : World} {K : PySem.W.Frag} (S1 S2 : SeqK P w K) (ta : TA) : TI := fun σ H R => ta σ H fun vs H1 => ∃ a b, vs = [.ref a, .ref b] ∧ (∃ xs, S1.Sq H1 a xs) ∧ (∃ ys, S2.Sq H1 b ys) ∧ R (Itz S1 S2 a b) H1
theorem pi_zip2 {X : Cx} {es : List Expr} {k : Nat} {p pos pos' : Pos} {e1 e2 : Expr} {ta : TA} (S1 S2 : SeqK X.prog X.w X.K) (zn : ZipNew2 S1 S2) (hg : Gl X "zip") (hm : X.mg "zip" = none) (ha : PA X [e1, e2] ta)
  (hs : starEach [e1, e2] X.env = [(false, eval e1 X.env), (false, eval e2 X.env)]) (hs2 : starEach [e2] X.env = [(false, eval e2 X.env)]) : PI X (.Tuple es k pos') (.Call (.Name "zip" p) [e1, e2] [] pos) (iZip S1 S2 ta) := by
 intro pins s σ H R I h
 refine thn (ev_zip2 S1 S2 zn (R := fun l1 l2 H1 => R (Itz S1 S2 l1 l2) H1) hg hm ha hs hs2 I h) fun v s1 ⟨l1, l2, H1, m, e, q, I1, gz, gI, gO, g1, g2, h1, h2, fr, _⟩ => ?_
 subst e
 exact wpAny_pyIter_zip gz ⟨_, [m + 4, m + 2, m + 3, m, m + 1], _, _, H1, rfl, I1, turn_zip S1 S2 _ _ _ _ _ l1 l2 (za_apart2 h1 h2), ⟨gz, gI, ⟨_, _, gO⟩, g1, g2⟩, fun b hb => fr b (by
  simp only [List.mem_cons, List.not_mem_nil, or_false] at hb
  rcases hb with e | e | e | e | e <;> rw [e] <;> first | exact Nat.le_refl _ | exact Nat.le_add_right _ _), q⟩
theorem pi_zipTL {X : Cx} {es : List Expr} {k : Nat} {p pos pos' : Pos} {e1 e2 : Expr} {ta : TA} (hg : Gl X "zip") (hm : X.mg "zip" = none) (ha : PA X [e1, e2] ta)
  (hs : starEach [e1, e2] X.env = [(false, eval e1 X.env), (false, eval e2 X.env)] := by rfl) (hs2 : starEach [e2] X.env = [(false, eval e2 X.env)] := by rfl) : PI X (.Tuple es k pos') (.Call (.Name "zip" p) [e1, e2] [] pos) (iZip (seqT X.prog X.w X.K) (seqL X.prog X.w X.K) ta) := pi_zip2 _ _ (zn_TL _ _ _) hg hm ha hs hs2
theorem pi_zipTT {X : Cx} {es : List Expr} {k : Nat} {p pos pos' : Pos} {e1 e2 : Expr} {ta : TA} (hg : Gl X "zip") (hm : X.mg "zip" = none) (ha : PA X [e1, e2] ta)
  (hs : starEach [e1, e2] X.env = [(false, eval e1 X.env), (false, eval e2 X.env)] := by rfl) (hs2 : starEach [e2] X.env = [(false, eval e2 X.env)] := by rfl) : PI X (.Tuple es k pos') (.Call (.Name "zip" p) [e1, e2] [] pos) (iZip (seqT X.prog X.w X.K) (seqT X.prog X.w X.K) ta) := pi_zip2 _ _ (zn_TT _ _ _) hg hm ha hs hs2
end L2

end

section
namespace L2
open PySem PySem.Spec PyProof.Rows
section
variable {X : Cx} {e a b c : Expr} {es rest : List Expr} {ta tb tc te : TE} {pos p : Pos} {tA tB' : TT} {t u : TS}
theorem PE.weak {t t' : TE} (h : PE X e t) (w : ∀ σ H Q, t' σ H Q → t σ H Q) : PE X e t' := fun pins s σ H Q I q => h pins s σ H Q I (w σ H Q q)
def cVar (i : Nat) : TE := fun σ H Q => match σ[i]? with | some (some v) => Q v H | _ => False
theorem cv (i : Nat) {x : Str} {pos : Pos} (hN : X.N[i]? = some x := by rfl) (hv : Vis X.env.scope x := by first | exact Or.inl rfl | exact Or.inr (Or.inl rfl) | exact Or.inr (Or.inr rfl)) (hd : (x == ("__debug__" : Str)) = false := by decide)
  (hcd : (x == ("__classdict__" : Str)) = false := by decide) : PE X (.Name x pos) (cVar i) := (pe_var hN hv hd hcd).weak fun σ H Q q => by
 unfold cVar at q
 split at q
 ·exact ⟨_, by assumption, q⟩
 ·exact q.elim
def cI (C : Int → Int → Prop) (g : Int → Int → V) (ta tb : TE) : TE := fun σ H Q => ta σ H fun x H1 => tb σ H1 fun y H2 => match x, y with | .int i, .int j => C i j ∧ Q (g i j) H2 | _, _ => False
end
section
variable {X : Cx} {e a b c : Expr} {es rest : List Expr} {ta tb tc te : TE} {pos p : Pos}
theorem rI_of {C : Int → Int → Prop} {g : Int → Int → V} {x y : V} {H : Hp} {Q : VK} (h : match x, y with | .int i, .int j => C i j ∧ Q (g i j) H | _, _ => False) : rI C g x y H Q := by
 split at h
 ·exact ⟨_, _, rfl, rfl, h⟩
 ·exact h.elim
theorem rI0_of {g : Int → Int → V} {x y : V} {H : Hp} {Q : VK} (h : match x, y with | .int i, .int j => Q (g i j) H | _, _ => False) : rI0 g x y H Q := by
 split at h
 ·exact ⟨_, _, rfl, rfl, h⟩
 ·exact h.elim
def mI (C : Int → Int → Prop) (g : Int → Int → V) : R2 := fun x y H Q => match x, y with | .int i, .int j => C i j ∧ Q (g i j) H | _, _ => False
def mI0 (g : Int → Int → V) : R2 := fun x y H Q => match x, y with | .int i, .int j => Q (g i j) H | _, _ => False
theorem OpR.mI {f : Value → Value → Sem Value} {C : Int → Int → Prop} {g : Int → Int → V} (h : OpR X f (rI C g)) : OpR X f (L2.mI C g) := fun pins s σ H x y v u Q I rx ry q => h pins s σ H x y v u Q I rx ry (rI_of q)
theorem OpR.mI0 {f : Value → Value → Sem Value} {g : Int → Int → V} (h : OpR X f (rI0 g)) : OpR X f (L2.mI0 g) := fun pins s σ H x y v u Q I rx ry q => h pins s σ H x y v u Q I rx ry (rI0_of q)
theorem o_add : OpR X (binaryOp .Add) (mI0 fun i j => .int (i + j)) := op_add.mI0
theorem o_sub : OpR X (binaryOp .Sub) (mI0 fun i j => .int (i - j)) := op_sub.mI0
theorem o_mul : OpR X (binaryOp .Mult) (mI CMul fun i j => .int (i * j)) := op_mul.mI
theorem o_fdiv : OpR X (binaryOp .FloorDiv) (mI CDiv fun i j => .int (i / j)) := op_fdiv.mI
theorem o_mod : OpR X (binaryOp .Mod) (mI (fun _ j => 0 < j) fun i j => .int (i % j)) := op_mod.mI
theorem o_pow : OpR X (binaryOp .Pow) (mI CPow fun i j => .int (i ^ j.toNat)) := op_pow.mI
theorem o_lt : OpR X (compareOp .Lt) (mI0 fun i j => .bl (decide (i < j))) := op_lt.mI0
theorem o_le : OpR X (compareOp .LtE) (mI0 fun i j => .bl (decide (i ≤ j))) := op_le.mI0
theorem o_gt : OpR X (compareOp .Gt) (mI0 fun i j => .bl (decide (j < i))) := op_gt.mI0
theorem o_ge : OpR X (compareOp .GtE) (mI0 fun i j => .bl (decide (j ≤ i))) := op_ge.mI0
def mB (x : V) (Q : Bool → Prop) : Prop := match x with | .bl c => Q c | _ => False
end
structure Mono (t : TE) : Prop where
 m : ∀ {σ H} {Q Q' : VK}, t σ H Q → (∀ v H', Q v H' → Q' v H') → t σ H Q'
section
variable {X : Cx} {e a b c : Expr} {es rest : List Expr} {te : TE} {pos p : Pos}
def cB (t : TE) : TT := fun σ H Q => t σ H fun x H1 => match x with | .bl c => Q c H1 | _ => False
theorem c_val {t : TE} (h : PE X e t) (he : ∀ whole, isTrue e X.env whole = (do let v ← whole; standAt e.pos; holding [v] (truthy v)) := by intro _; rfl) : PT X e (cB t) := by
 intro pins s σ H Q I hw
 refine isTrue_plain (thn (h pins s σ H _ I hw) fun v s1 ⟨x, H1, I1, r1, q1⟩ => ?_) (he _)
 dsimp only at q1
 split at q1
 ·cases r1; exact wpAny_truthy_bool ⟨H1, I1, q1⟩
 ·exact q1.elim
theorem c_cmpT {op : CmpOp} {r : R2} {ta tb : TE} (ho : OpR X (compareOp op) r) (ha : PE X a ta) (hb : PE X b tb) (hm : behindInMarks op b = false) : PT X (.Compare a [op] [b] pos) (cB (tOp r ta tb)) := by
 intro pins s σ H Q I h
 refine wpAny_isTrue_Compare1 (thn (ha pins s σ H _ I h) fun v s1 ⟨x, H1, I1, r1, q1⟩ => thn (hb pins s1 σ H1 _ I1 q1) fun u s2 ⟨y, H2, I2, r2, q2⟩ =>
  thn (ho pins s2 σ H2 x y v u _ I2 r1 r2 q2) fun c s3 ⟨z, H3, I3, r3, q3⟩ => ?_) hm
 dsimp only at q3
 split at q3
 ·cases r3; exact wpAny_truthy_bool ⟨H3, I3, q3⟩
 ·exact q3.elim
def cChain (r r' : R2) (ta tb tc : TE) : TE := fun σ H Q => ta σ H fun x H1 => tb σ H1 fun y H2 => r x y H2 fun z H3 => match z with | .bl k => br k (tc σ H3 fun w' H4 => r' y w' H4 Q) (Q (.bl false) H3) | _ => False
theorem c_chain {op op' : CmpOp} {r r' : R2} {ta tb tc : TE} (ho : OpR X (compareOp op) r) (ho' : OpR X (compareOp op') r') (ha : PE X a ta) (hb : PE X b tb) (hc : PE X c tc)
  (hm : lastMarks [op, op'] [b, c] = false := by with_unfolding_all rfl) : PE X (.Compare a [op, op'] [b, c] pos) (cChain r r' ta tb tc) := by
 intro pins s σ H Q I h
 refine Compare_chain (thn (ha pins s σ H _ I h) fun v s1 ⟨x, H1, I1, r1, q1⟩ => chain_link (thn (hb pins s1 σ H1 _ I1 q1) fun u s2 ⟨y, H2, I2, r2, q2⟩ =>
  thn (ho pins s2 σ H2 x y v u _ I2 r1 r2 q2) fun d s3 ⟨z, H3, I3, r3, q3⟩ => ?_)) hm
 dsimp only at q3
 split at q3
 ·rename_i k
  cases r3
  refine wpAny_truthy_bool ?_
  cases k with
  | false => exact ite_ff ⟨.bl false, H3, I3, rfl, q3.2 rfl⟩
  | true => exact ite_tt (chain_last (thn (hc pins s3 σ H3 _ I3 (q3.1 rfl)) fun w' s4 ⟨z', H4, I4, r4, q4⟩ => ho' pins s4 σ H4 y z' u w' Q I4 r2 r4 q4))
 ·exact q3.elim
theorem c_chainT {op op' : CmpOp} {r r' : R2} {ta tb tc : TE} (ho : OpR X (compareOp op) r) (ho' : OpR X (compareOp op') r') (ha : PE X a ta) (hb : PE X b tb) (hc : PE X c tc)
  (hm : lastMarks [op, op'] [b, c] = false := by with_unfolding_all rfl) : PT X (.Compare a [op, op'] [b, c] pos) (cB (cChain r r' ta tb tc)) := by
 intro pins s σ H Q I h
 refine isTrue_chain (thn (ha pins s σ H _ I h) fun v s1 ⟨x, H1, I1, r1, q1⟩ => test_link (thn (hb pins s1 σ H1 _ I1 q1) fun u s2 ⟨y, H2, I2, r2, q2⟩ =>
  thn (ho pins s2 σ H2 x y v u _ I2 r1 r2 q2) fun d s3 ⟨z, H3, I3, r3, q3⟩ => ?_)) hm
 dsimp only at q3
 split at q3
 ·rename_i k
  cases r3
  refine wpAny_truthy_bool ?_
  cases k with
  | false => exact ite_ff ⟨H3, I3, q3.2 rfl⟩
  | true =>
   refine ite_tt (test_last (thn (hc pins s3 σ H3 _ I3 (q3.1 rfl)) fun w' s4 ⟨z', H4, I4, r4, q4⟩ => thn (ho' pins s4 σ H4 y z' u w' _ I4 r2 r4 q4) fun d' s5 ⟨z2, H5, I5, r5, q5⟩ => ?_))
   dsimp only at q5
   split at q5
   ·cases r5; exact wpAny_truthy_bool ⟨H5, I5, q5⟩
   ·exact q5.elim
 ·exact q3.elim
def cAnd (t u : TT) : TT := fun σ H Q => t σ H fun c H1 => br c (u σ H1 Q) (Q false H1)
def cOr (t u : TT) : TT := fun σ H Q => t σ H fun c H1 => br c (Q true H1) (u σ H1 Q)
theorem c_and {tA tB' : TT} (ha : PT X a tA) (hb : PW X (.BoolOp .And (b :: rest) pos) tB') : PW X (.BoolOp .And (a :: b :: rest) pos) (cAnd tA tB') := by
 intro wh pins s σ H Q I h
 refine isTrue_and (thn (ha pins s σ H _ I h) fun c s1 ⟨H1, I1, q1⟩ => ?_)
 cases c with
 | true => exact hb wh pins s1 σ H1 Q I1 (q1.1 rfl)
 | false => exact ⟨H1, I1, q1.2 rfl⟩
theorem c_or {tA tB' : TT} (ha : PT X a tA) (hb : PW X (.BoolOp .Or (b :: rest) pos) tB') : PW X (.BoolOp .Or (a :: b :: rest) pos) (cOr tA tB') := by
 intro wh pins s σ H Q I h
 refine isTrue_or (thn (ha pins s σ H _ I h) fun c s1 ⟨H1, I1, q1⟩ => ?_)
 cases c with
 | true => exact ⟨H1, I1, q1.1 rfl⟩
 | false => exact hb wh pins s1 σ H1 Q I1 (q1.2 rfl)
def cAndV (ta tb : TE) : TE := fun σ H Q => ta σ H fun x H1 => match x with | .bl c => br c (tb σ H1 Q) (Q (.bl false) H1) | _ => False
def cNotV (ta : TE) : TE := fun σ H Q => ta σ H fun x H1 => match x with | .bl c => Q (.bl (!c)) H1 | _ => False
theorem c_andV {ta tb : TE} (ha : PE X a ta) (hb : PE X (.BoolOp .And (b :: rest) pos) tb) : PE X (.BoolOp .And (a :: b :: rest) pos) (cAndV ta tb) := by
 intro pins s σ H Q I h
 refine BoolOp_and (thn (ha pins s σ H _ I h) fun v s1 ⟨x, H1, I1, r1, q1⟩ => ?_)
 dsimp only at q1
 split at q1
 ·rename_i c
  cases r1
  refine wpAny_truthy_bool ?_
  cases c with
  | true => exact hb pins s1 σ H1 Q I1 (q1.1 rfl)
  | false => exact ⟨.bl false, H1, I1, rfl, q1.2 rfl⟩
 ·exact q1.elim
theorem c_notV {ta : TE} (ha : PE X a ta) : PE X (.UnaryOp .Not a pos) (cNotV ta) := by
 intro pins s σ H Q I h
 refine UnaryOp_ (thn (ha pins s σ H _ I h) fun v s1 ⟨x, H1, I1, r1, q1⟩ => ?_)
 dsimp only at q1
 split at q1
 ·rename_i c
  cases r1
  exact not_of (wpAny_truthy_bool ⟨.bl (!c), H1, I1, rfl, q1⟩)
 ·exact q1.elim
def cIf (t : TT) (ta tb : TE) : TE := fun σ H Q => t σ H fun c H1 => br c (ta σ H1 Q) (tb σ H1 Q)
theorem c_ifE {ta tb : TE} {tA : TT} (hc : PT X c tA) (ha : PE X a ta) (hb : PE X b tb) : PE X (.IfExp c a b pos) (cIf tA ta tb) := by
 intro pins s σ H Q I h
 refine wpAny_IfExp (thn (hc pins s σ H _ I h) fun d s1 ⟨H1, I1, q1⟩ => ?_)
 cases d with
 | true => exact ha pins s1 σ H1 Q I1 (q1.1 rfl)
 | false => exact hb pins s1 σ H1 Q I1 (q1.2 rfl)
def cIfS (c : TT) (t u : TS) : TS := fun D σ H => c σ H fun b H1 => br b (t D σ H1) (u D σ H1)
theorem c_if {sa sb : List Stmt} {tc : TT} {t u : TS} (hc : PT X c tc) (ha : PSs X sa t) (hb : PSs X sb u) : PS X (.If c sa sb pos) (cIfS tc t u) := by
 intro pins s σ H D I h
 refine wpAny_If (thn (hc pins s σ H _ I h) fun d s1 ⟨H1, I1, q1⟩ => ?_)
 cases d with
 | true => exact ha pins s1 σ H1 D I1 (q1.1 rfl)
 | false => exact hb pins s1 σ H1 D I1 (q1.2 rfl)
end
section
variable {X : Cx} {es : List Expr} {t : TA} {pos : Pos}
theorem few {n : Nat} (h : Nat.ble n 64 = true) : n ≤ sizeLine := Nat.le_trans (Nat.le_of_ble_eq_true h) (by decide)
def cTup (t : TA) : TE := fun σ H Q => t σ H fun xs H1 => match Nat.ble xs.length 64 with | true => ∀ p, H1 p = none → Q (.ref p) (upd H1 p (.tup xs)) | false => False
def cLst (t : TA) : TE := fun σ H Q => t σ H fun xs H1 => match Nat.ble xs.length 64 with | true => ∀ p, H1 p = none → Q (.ref p) (upd H1 p (.lst xs)) | false => False
theorem c_tup {x1} (h : PA X es t) : PE X (.Tuple es x1 pos) (cTup t) := by
 intro pins s σ H Q I hq
 refine wpAny_Tuple_spliced (thn (h pos pins s σ H _ I hq) fun us s1 ⟨xs, H1, I1, r, q⟩ => ?_)
 dsimp only at q
 split at q
 ·rename_i z
  refine ⟨by rw [← r.length]; exact few z, ?_⟩
  have hf : H1 s1.heap.objs.size = none := I1.hok.fresh (Nat.le_refl _)
  refine ⟨.ref s1.heap.objs.size, upd H1 s1.heap.objs.size (.tup xs), I1.laid (t' := s1.toks) (fun b u e => Heap.get?_push_of_some _ e) (Nat.le_refl _) ?_, rfl, q _ hf⟩
  exact ⟨few z, us, r, ⟨_, Heap.get?_push_size _ rfl, rfl, _, rfl⟩⟩
 ·exact q.elim
theorem c_lst (h : PA X es t) : PE X (.List es pos) (cLst t) := by
 intro pins s σ H Q I hq
 refine wpAny_List_spliced (thn (h pos pins s σ H _ I hq) fun us s1 ⟨xs, H1, I1, r, q⟩ => ?_)
 dsimp only at q
 split at q
 ·rename_i z
  refine ⟨by rw [← r.length]; exact few z, ?_⟩
  have hf : H1 s1.heap.objs.size = none := I1.hok.fresh (Nat.le_refl _)
  refine ⟨.ref s1.heap.objs.size, upd H1 s1.heap.objs.size (.lst xs), I1.laid (t' := s1.toks) (fun b u e => Heap.get?_push_of_some _ e) (Nat.le_refl _) ?_, rfl, q _ hf⟩
  exact ⟨few z, us, 0, r, Heap.get?_push_size _ rfl⟩
 ·exact q.elim
end
section
variable {P : Program} {w : World} {K : PySem.W.Frag} {mg : Str → Option Value} {base : Heap}
structure Fn (P : Program) (w : World) (K : PySem.W.Frag) (mg : Str → Option Value) (base : Heap) (n : Nat) (x : Str) (ps : List Str) (sp : Sp) : Prop where
 ex : ∃ (f : Addr) (fd : FuncData), FnOk P w K mg base CX0 n f fd ps sp ∧ mg x = some (.ref f) ∧ PySem.W.keepIn K (.ref f) = true ∧ Binds K fd ps []
structure Df (K : PySem.W.Frag) (mg : Str → Option Value) (x : Str) (st : Stmt) (ps : List Str) : Prop where
 ex : ∃ (f : Addr) (fd : FuncData), Fun K x x st f fd ∧ mg x = some (.ref f) ∧ Binds K fd ps []
theorem Df.fn {x : Str} {st : Stmt} {N ps : List Str} {k : Nat} {sp : Sp} (F : Df K mg x st ps) (S : FnScope N ps (defScope st)) (len : ∀ vs H Q E, sp vs H Q E → vs.length = ps.length)
  (hbody : ∀ (f : Addr) (cdv : Value) (A : Around) (outer : List Env) (s : Shared) (H : Hp) (vs : List V) (Q : VK) (E : XK), Room k (A.deeper (envOfC x (defScope st) s.heap.objs.size f cdv)) → sp vs H Q E →
   ∃ t, PSs (cxOf CX0 P w K mg base N x (defScope st) f cdv A outer s H E).nox (defBody st) t ∧ t { nx := fun _ H' => Q .non H', rt := Q } (start N vs) H) : Fn P w K mg base (k + 1) x ps sp := by
 obtain ⟨f, fd, hF, hm, hb⟩ := F.ex
 exact ⟨f, fd, hF.ok S len fun cdv A outer s H vs Q E hr h => hbody f cdv A outer s H vs Q E hr h, hm, hF.kp, hb⟩
def cCall (sp : Sp) (t : TA) : TE := fun σ H Q => t σ H fun vs H1 => sp vs H1 Q E0
theorem c_call {X : Cx} {n : Nat} {x : Str} {ps : List Str} {sp : Sp} {e : Expr} {es : List Expr} {t : TA} {p pos : Pos} (F : Fn X.prog X.w X.K X.mg X.base n x ps sp) (hr : Room n X.A) (hg : Gl X x) (ha : PA X (e :: es) t)
  (hdb : (x == ("__debug__" : Str)) = false := by decide) (he : starEach (e :: es) X.env = (false, eval e X.env) :: starEach es X.env := by rfl) (hpl : (backTo pos (starEach es X.env)).any (·.1) = false := by rfl) :
  PE X (.Call (.Name x p) (e :: es) [] pos) (cCall sp t) := by
 obtain ⟨f, fd, F, hm, hk, hb⟩ := F.ex
 refine (pe_call (dvs := []) (E := E0) F hr hg hm hk hb .nil pass0 ha hdb he hpl).weak fun σ H Q q => ?_
 have e : ∀ vs : List V, vs ++ [] = vs := fun vs => List.append_nil vs
 show t σ H fun vs H1 => sp (vs ++ []) H1 Q E0
 simp only [e]
 exact q
end
end L2

end

section
namespace L2
open PySem PySem.Spec PyProof.Rows
def DK (kvs : List (PyData × PyData)) (ks : List (Key × V)) : Prop := (kvs = [] ∧ ks = []) ∨ (kvs = [(.int 0, .int 1)] ∧ ks = [(.inl 0, .int 1)])
mutual
def Rep (p : Addr) (H : Hp) : PyData → V → Prop
 | .none, v => v = .non
 | .bool b, v => v = .bl b
 | .int i, v => v = .int i
 | .str x, v => v = .str x
 | .tuple ds, v => ∃ a xs, v = .ref a ∧ H a = some (.tup xs) ∧ Reps p H ds xs
 | .list ds, v => ∃ a xs, v = .ref a ∧ a ≠ p ∧ H a = some (.lst xs) ∧ Reps p H ds xs
 | .dict kvs, v => ∃ a ks, v = .ref a ∧ a ≠ p ∧ DK kvs ks ∧ H a = some (.dK ks)
def Reps (p : Addr) (H : Hp) : List PyData → List V → Prop
 | [], xs => xs = []
 | d :: ds, xs => ∃ x r, xs = x :: r ∧ Rep p H d x ∧ Reps p H ds r
end
def Ev (p : Addr) (H H' : Hp) : Prop := ∀ b o, H b = some o → (b = p ∧ ∃ xs, o = .lst xs) ∨ H' b = some o
theorem Ev.refl {p : Addr} {H : Hp} : Ev p H H := fun _ _ h => .inr h
theorem Ev.same {p : Addr} {H H' : Hp} (h : Same H H') : Ev p H H' := fun b o q => .inr (h b o q)
theorem Ev.trans {p : Addr} {H H1 H2 : Hp} (h : Ev p H H1) (h' : Ev p H1 H2) : Ev p H H2 := fun b o q => (h b o q).elim .inl fun r => h' b o r
theorem Ev.tup {p a : Addr} {H H' : Hp} {xs : List V} (h : Ev p H H') (q : H a = some (.tup xs)) : H' a = some (.tup xs) := (h a _ q).elim (fun ⟨_, ys, e⟩ => nomatch e) id
theorem Ev.lst {p a : Addr} {H H' : Hp} {xs : List V} (h : Ev p H H') (q : H a = some (.lst xs)) (n : a ≠ p) : H' a = some (.lst xs) := (h a _ q).elim (fun ⟨e, _⟩ => absurd e n) id
theorem Ev.dk {p a : Addr} {H H' : Hp} {ks : List (Key × V)} (h : Ev p H H') (q : H a = some (.dK ks)) : H' a = some (.dK ks) := (h a _ q).elim (fun ⟨_, ys, e⟩ => nomatch e) id
theorem Ev.new {p a : Addr} {H : Hp} {o : HO} (h : H a = none) : Ev p H (upd H a o) := fun b u q => .inr (by rw [upd_ne (ne_of_none q h)]; exact q)
theorem Ev.pen {p : Addr} {H : Hp} {o : HO} {xs : List V} (h : H p = some (.lst xs)) : Ev p H (upd H p o) := fun b u q => by
 by_cases e : b = p
 ·subst e; rw [h] at q; cases q; exact .inl ⟨rfl, xs, rfl⟩
 ·exact .inr (by rw [upd_ne e]; exact q)
theorem Same.new {a : Addr} {H : Hp} {o : HO} (h : H a = none) : Same H (upd H a o) := fun b u q => by rw [upd_ne (ne_of_none q h)]; exact q
mutual
theorem Rep.ev {p : Addr} {H H' : Hp} (h : Ev p H H') : ∀ (d : PyData) (v : V), Rep p H d v → Rep p H' d v
 | .none, v, q => q
 | .bool _, v, q => q
 | .int _, v, q => q
 | .str _, v, q => q
 | .tuple ds, v, q => by
  unfold Rep at q ⊢
  obtain ⟨a, xs, e, r, z⟩ := q
  exact ⟨a, xs, e, h.tup r, Reps.ev h ds xs z⟩
 | .list ds, v, q => by
  unfold Rep at q ⊢
  obtain ⟨a, xs, e, n, r, z⟩ := q
  exact ⟨a, xs, e, n, h.lst r n, Reps.ev h ds xs z⟩
 | .dict kvs, v, q => by
  unfold Rep at q ⊢
  obtain ⟨a, ks, e, n, k, r⟩ := q
  exact ⟨a, ks, e, n, k, h.dk r⟩
theorem Reps.ev {p : Addr} {H H' : Hp} (h : Ev p H H') : ∀ (ds : List PyData) (xs : List V), Reps p H ds xs → Reps p H' ds xs
 | [], xs, q => by unfold Reps at q ⊢; exact q
 | d :: ds, xs, q => by
  unfold Reps at q ⊢
  obtain ⟨x, r, e, z, zs⟩ := q
  exact ⟨x, r, e, Rep.ev h d x z, Reps.ev h ds r zs⟩
end
theorem Reps.len {p : Addr} {H : Hp} : ∀ {ds : List PyData} {xs : List V}, Reps p H ds xs → ds.length = xs.length
 | [], xs, q => by unfold Reps at q; subst q; rfl
 | d :: ds, xs, q => by
  unfold Reps at q
  obtain ⟨x, r, e, z, zs⟩ := q
  subst e
  simp [Reps.len zs]
theorem Reps.get {p : Addr} {H : Hp} : ∀ {ds : List PyData} {xs : List V} {i : Nat} {d : PyData}, Reps p H ds xs → ds[i]? = some d → ∃ x, xs[i]? = some x ∧ Rep p H d x
 | [], xs, i, d, q, e => by simp at e
 | d :: ds, xs, 0, d', q, e => by
  unfold Reps at q
  obtain ⟨x, r, rfl, z, zs⟩ := q
  simp at e; subst e
  exact ⟨x, rfl, z⟩
 | d :: ds, xs, i + 1, d', q, e => by
  unfold Reps at q
  obtain ⟨x, r, rfl, z, zs⟩ := q
  obtain ⟨y, hy, ry⟩ := Reps.get (i := i) zs (by simpa using e)
  exact ⟨y, by simpa using hy, ry⟩
theorem Reps.got {p : Addr} {H : Hp} : ∀ {ds : List PyData} {xs : List V} {i : Nat} {x : V}, Reps p H ds xs → xs[i]? = some x → ∃ d, ds[i]? = some d ∧ Rep p H d x
 | [], xs, i, x, q, e => by unfold Reps at q; subst q; simp at e
 | d :: ds, xs, 0, x', q, e => by
  unfold Reps at q
  obtain ⟨x, r, rfl, z, zs⟩ := q
  simp at e; subst e
  exact ⟨d, rfl, z⟩
 | d :: ds, xs, i + 1, x', q, e => by
  unfold Reps at q
  obtain ⟨x, r, rfl, z, zs⟩ := q
  obtain ⟨y, hy, ry⟩ := Reps.got (i := i) zs (by simpa using e)
  exact ⟨y, by simpa using hy, ry⟩
theorem Reps.nil {p : Addr} {H : Hp} : Reps p H [] [] := by unfold Reps; rfl
theorem Reps.cons {p : Addr} {H : Hp} {d : PyData} {ds : List PyData} {x : V} {xs : List V} (h : Rep p H d x) (r : Reps p H ds xs) : Reps p H (d :: ds) (x :: xs) := by unfold Reps; exact ⟨x, xs, rfl, h, r⟩
theorem Reps.append {p : Addr} {H : Hp} : ∀ {ds es : List PyData} {xs ys : List V}, Reps p H ds xs → Reps p H es ys → Reps p H (ds ++ es) (xs ++ ys)
 | [], _, xs, _, q, r => by unfold Reps at q; subst q; exact r
 | d :: ds, _, xs, _, q, r => by
  unfold Reps at q
  obtain ⟨x, t, rfl, z, zs⟩ := q
  exact .cons z (Reps.append zs r)
theorem Rep.tup {p a : Addr} {H : Hp} {ds : List PyData} {xs : List V} (h : H a = some (.tup xs)) (r : Reps p H ds xs) : Rep p H (.tuple ds) (.ref a) := by unfold Rep; exact ⟨a, xs, rfl, h, r⟩
theorem Rep.lst {p a : Addr} {H : Hp} {ds : List PyData} {xs : List V} (n : a ≠ p) (h : H a = some (.lst xs)) (r : Reps p H ds xs) : Rep p H (.list ds) (.ref a) := by unfold Rep; exact ⟨a, xs, rfl, n, h, r⟩
theorem Rep.int {p : Addr} {H : Hp} {i : Int} : Rep p H (.int i) (.int i) := by unfold Rep; rfl
theorem Rep.bl {p : Addr} {H : Hp} {i : Bool} : Rep p H (.bool i) (.bl i) := by unfold Rep; rfl
theorem Rep.str {p : Addr} {H : Hp} {i : Str} : Rep p H (.str i) (.str i) := by unfold Rep; rfl
theorem Rep.non {p : Addr} {H : Hp} : Rep p H .none .non := by unfold Rep; rfl
def TyIs (x : V) (H : Hp) (n : String) : Prop := match x with
 | .non => n = "NoneType" | .bl _ => n = "bool" | .int _ => n = "int" | .str _ => n = "str"
 | .ref a => (n = "tuple" ∧ ∃ xs, H a = some (.tup xs)) ∨ (n = "list" ∧ ∃ xs, H a = some (.lst xs)) ∨ (n = "dict" ∧ ∃ kvs, H a = some (.dK kvs))
 | _ => False
def tyD : PyData → String
 | .none => "NoneType" | .bool _ => "bool" | .int _ => "int" | .str _ => "str" | .tuple _ => "tuple" | .list _ => "list" | .dict _ => "dict"
def isSub (n T : String) : Bool := n == T || (n == "bool" && T == "int")
theorem Rep.ty {p : Addr} {H : Hp} {v : V} : ∀ {d : PyData}, Rep p H d v → TyIs v H (tyD d)
 | .none, q => by unfold Rep at q; subst q; rfl
 | .bool _, q => by unfold Rep at q; subst q; rfl
 | .int _, q => by unfold Rep at q; subst q; rfl
 | .str _, q => by unfold Rep at q; subst q; rfl
 | .tuple ds, q => by unfold Rep at q; obtain ⟨a, xs, rfl, h, _⟩ := q; exact .inl ⟨rfl, xs, h⟩
 | .list ds, q => by unfold Rep at q; obtain ⟨a, xs, rfl, _, h, _⟩ := q; exact .inr (.inl ⟨rfl, xs, h⟩)
 | .dict kvs, q => by unfold Rep at q; obtain ⟨a, ks, rfl, _, _, h⟩ := q; exact .inr (.inr ⟨rfl, ks, h⟩)
def rIsi : List V → Hp → VK → Prop := fun xs H Q => match xs with
 | [x, .ty T] => ∃ n, TyIs x H n ∧ (T = "int" ∨ T = "bool" ∨ T = "tuple" ∨ T = "list" ∨ T = "str") ∧ Q (.bl (isSub n T)) H
 | _ => False
section
variable {X : Cx}
theorem boot_int : bootBuiltins "int" = some (.type "int") := by decide +kernel
theorem boot_bool : bootBuiltins "bool" = some (.type "bool") := by decide +kernel
theorem boot_tuple' : bootBuiltins "tuple" = some (.type "tuple") := by decide +kernel
theorem boot_str' : bootBuiltins "str" = some (.type "str") := by decide +kernel
theorem call_isi : CallR X (.builtin "isinstance") rIsi := by
 intro pins s σ H xs us Q I r h
 unfold rIsi at h
 split at h
 ·rename_i x T
  obtain ⟨n, ht, hT, q⟩ := h
  obtain ⟨u, v, rfl, ru, rv⟩ := r.two
  cases rv
  have yes : ∀ s' : Shared, Inv X pins σ H s' → isSub n T = true → EP X pins σ Q (.bool true) s' := fun s' I' e => ⟨.bl true, H, I', rfl, by rw [e] at q; exact q⟩
  have no : isSub n T = false → EP X pins σ Q (.bool false) { s with toks := s.toks + 1 } := fun e => ⟨.bl false, H, I.tok _, rfl, by rw [e] at q; exact q⟩
  cases x with
  | non =>
   have e : n = "NoneType" := ht
   subst e; cases ru
   rcases hT with rfl | rfl | rfl | rfl | rfl
   ·exact IsiPair.NoneType_int (no rfl)
   ·exact IsiPair.NoneType_bool (no rfl)
   ·exact IsiPair.NoneType_tuple (no rfl)
   ·exact IsiPair.NoneType_list (no rfl)
   ·exact IsiPair.NoneType_str (no rfl)
  | bl k =>
   have e : n = "bool" := ht
   subst e; cases ru
   rcases hT with rfl | rfl | rfl | rfl | rfl
   ·exact IsiPair.bool_int (yes _ I rfl)
   ·exact IsiPair.bool_bool (yes _ I rfl)
   ·exact IsiPair.bool_tuple (no rfl)
   ·exact IsiPair.bool_list (no rfl)
   ·exact IsiPair.bool_str (no rfl)
  | int k =>
   have e : n = "int" := ht
   subst e; obtain ⟨t, rfl⟩ := ru
   rcases hT with rfl | rfl | rfl | rfl | rfl
   ·exact IsiPair.int_int (yes _ I rfl)
   ·exact IsiPair.int_bool (no rfl)
   ·exact IsiPair.int_tuple (no rfl)
   ·exact IsiPair.int_list (no rfl)
   ·exact IsiPair.int_str (no rfl)
  | str k =>
   have e : n = "str" := ht
   subst e; obtain ⟨t, rfl⟩ := ru
   rcases hT with rfl | rfl | rfl | rfl | rfl
   ·exact IsiPair.str_int (no rfl)
   ·exact IsiPair.str_bool (no rfl)
   ·exact IsiPair.str_tuple (no rfl)
   ·exact IsiPair.str_list (no rfl)
   ·exact IsiPair.str_str (yes _ I rfl)
  | ref a =>
   cases ru
   have ht' : (n = "tuple" ∧ ∃ xs, H a = some (.tup xs)) ∨ (n = "list" ∧ ∃ xs, H a = some (.lst xs)) ∨ (n = "dict" ∧ ∃ kvs, H a = some (.dK kvs)) := ht
   rcases ht' with ⟨e, xs, hx⟩ | ⟨e, xs, hx⟩ | ⟨e, xs, hx⟩
   ·subst e
    obtain ⟨_, its, _, o, ho, hc, _⟩ := I.hok a _ hx
    rcases hT with rfl | rfl | rfl | rfl | rfl
    ·exact IsiPair.tuple_int ho hc (no rfl)
    ·exact IsiPair.tuple_bool ho hc (no rfl)
    ·exact IsiPair.tuple_tuple ho hc (yes _ I rfl)
    ·exact IsiPair.tuple_list ho hc (no rfl)
    ·exact IsiPair.tuple_str ho hc (no rfl)
   ·subst e
    obtain ⟨_, its, k, _, ho⟩ := I.hok a _ hx
    rcases hT with rfl | rfl | rfl | rfl | rfl
    ·exact IsiPair.list_int ho rfl (no rfl)
    ·exact IsiPair.list_bool ho rfl (no rfl)
    ·exact IsiPair.list_tuple ho rfl (no rfl)
    ·exact IsiPair.list_list ho rfl (yes _ I rfl)
    ·exact IsiPair.list_str ho rfl (no rfl)
   ·subst e
    obtain ⟨_, _, vs, _, o, es, ep, ho, hc, _⟩ := I.hok a _ hx
    have hc' : o.cls = .type "dict" := hc.1
    rcases hT with rfl | rfl | rfl | rfl | rfl
    ·exact IsiPair.dict_int ho hc' (no rfl)
    ·exact IsiPair.dict_bool ho hc' (no rfl)
    ·exact IsiPair.dict_tuple ho hc' (no rfl)
    ·exact IsiPair.dict_list ho hc' (no rfl)
    ·exact IsiPair.dict_str ho hc' (no rfl)
  | byt _ => exact (show False from ht).elim
  | flt _ => exact (show False from ht).elim
  | ty _ => exact (show False from ht).elim
 ·exact h.elim
theorem call_all (hc : X.calm = true) : CallR X (.builtin "all") (fun xs H Q => ∃ (p : Addr) (bs : List Bool), xs = [.ref p] ∧ H p = some (.lst (bs.map V.bl)) ∧ Q (.bl (bs.all id)) H) := by
 intro pins s σ H xs us Q I r h
 obtain ⟨p, bs, rfl, hp, q⟩ := h
 obtain ⟨u, rfl, ru⟩ := r.one
 cases ru
 obtain ⟨its, rv, pl, hz⟩ := I.list (SqL.of hp)
 refine call_all_walk (wpAny_pyIter_list pl.isList ?_)
 obtain ⟨ol, _, hol, _⟩ := id pl
 have hlt := Heap.lt_size hol
 refine ⟨s.heap.objs.size, _, _, _, _, _, fun i => bs.getD i false, rfl, Walks.list (A := X.A.in1) (I.ok.hd hc) s.heap.objs.size p (Nat.ne_of_lt hlt) its.toArray, ⟨⟨_, Heap.get?_push_size _ rfl, rfl, rfl⟩, ?_⟩, fun i v s' Q' E' hi hq => ?_, fun h' tk hk => ?_⟩
 ·exact pl.isList.at fun o e => Heap.get?_push_of_some _ e
 ·have hi' : its[i]? = some v := by simpa using hi
  have hl := rv.length
  have hb : i < bs.length := by have := (List.getElem?_eq_some_iff.mp hi').1; simp at hl; omega
  obtain ⟨u, hu, ru⟩ := rv.get (i := i) (x := .bl bs[i]) (by simp [hb])
  rw [hi'] at hu; cases hu; cases ru
  dsimp only at hq; rw [List.getD_eq_getElem?_getD, List.getElem?_eq_getElem hb] at hq
  exact wpAny_truthy_bool hq
 ·have hl := rv.length
  simp at hl
  have e : (List.range its.toArray.size).all (fun i => bs.getD i false) = bs.all id := by
   rw [List.size_toArray, ← hl, Bool.eq_iff_iff]
   simp only [List.all_eq_true, List.mem_range, id]
   constructor
   ·intro h x hx
    obtain ⟨i, hi, e⟩ := List.mem_iff_getElem.mp hx
    have := h i hi
    rw [List.getD_eq_getElem?_getD, List.getElem?_eq_getElem hi] at this
    rw [← e]; exact this
   ·intro h i hi
    rw [List.getD_eq_getElem?_getD, List.getElem?_eq_getElem hi]
    exact h _ (List.getElem_mem hi)
  rw [e]
  refine ⟨.bl (bs.all id), H, I.kept fun b o eb => hk b o ?_ (Heap.get?_push_of_some _ eb), rfl, q⟩
  intro z
  have z' : b = s.heap.objs.size := by simpa using z
  exact absurd (Heap.lt_size eb) (by rw [z']; exact Nat.lt_irrefl _)
end
end L2

end

section
namespace L2
open PySem PySem.Spec PyProof.Rows
open AutoSeq1 (wpAny_loadPart')
section
variable {X : Cx}
def Got (H : Hp) (xs : List V) (Q : VK) : Prop := ∀ r H', Same H H' → H' r = some (.tup xs) → Q (.ref r) H'
theorem Inv.gotNew {pins : List (Addr × Obj)} {σ : St} {H : Hp} {s : Shared} {Q : VK} {xs : List V} {us : List Value} {t' : Nat} (I : Inv X pins σ H s) (q : Got H xs Q) (rv : Vals xs us) (hz : xs.length ≤ sizeLine) :
  EP X pins σ Q (.ref s.heap.objs.size) { s with heap := s.heap.push { cls := .type "tuple", data := .seq us.toArray }, toks := t' } :=
 ⟨.ref s.heap.objs.size, _, I.laid (o := .tup xs) (fun b ob e => Heap.get?_push_of_some _ e) (Nat.le_refl _) ⟨hz, us, rv, IsTup.new _ _⟩, rfl, q _ _ (Same.new (I.hok.fresh (Nat.le_refl _))) upd_same⟩
theorem whole_cut {t sl : Addr} {items : Array Value} {vl vu : Value} {lo hi : Option Int} {Q : Value → Shared → Prop} {prog : Program} {w : World} {A : Around} {E : Value → Shared → Prop} {s : Shared} (ht : IsTup s.heap t items) (hs : s.heap.IsSliceOf sl vl vu .none) (pl : IsPart vl lo) (pu : IsPart vu hi)
  (hw : HT.sIx items.size 0 lo = 0 ∧ HT.sIx items.size items.size hi = items.size) (h : Q (.ref t) s) : wpAny (model prog w) A (getItem (.ref t) (.ref sl)) Q E s := by
 obtain ⟨os, hos, hcs, hds⟩ := id hs
 have hTs : s.TypeIs (.ref sl) "slice" := ⟨os, hos, hcs⟩
 unfold getItem
 try with_reducible refine wpAny_holding ?_
 first | refine wpAny_bind (wpAny_pure ?_) | skip
 refine wpAny_bind (wpAny_sequenceKey ht.typeIs (by decide) ?_)
 refine wpAny_bind (wpAny_callSpecial?_slot (name := Str.ofString "__getitem__") ht.typeIs PyProof.Rows.slot_tuple_getitem (wpAny_call_entry PyProof.Rows.slot_tuple_getitem ht.typeIs entry_tuple_getitem ?_ (args_tuple_getitem _ _)))
 show wpAny _ _ (Builtin.Tuple.tupleItemsOf (.ref t) >>= _) _ _ s; refine wpAny_bind (tupleItemsOf_ ht ?_); refine wpAny_bind (wpAny_typeOf hTs ?_); rw [if_pos (by decide)]
 refine wpAny_bind (HT.sliceApplied_gen hs pl pu ?_)
 rw [hw.1, hw.2]
 show wpAny _ _ (if (((0 : Nat) : Int) == 0 && (1 : Int) == 1 && (items.size - 0) == items.size) = true then _ else _) _ _ s
 rw [if_pos (by simp)]
 refine wpAny_bind (m := Builtin.Tuple.tupleIsExact _) ?_
 unfold Builtin.Tuple.tupleIsExact
 refine wpAny_bind (wpAny_typeOf ht.typeIs (wpAny_pure ?_))
 rw [if_pos (by decide)]
 exact wpAny_bind (wpAny_rule (wpAny_pure ⟨_, rfl, wpAny_pure h⟩))
def rSl2 : V → Option Int → Option Int → Hp → VK → Prop := fun x lo hi H Q => ∃ a xs, x = .ref a ∧ H a = some (.tup xs) ∧ Got H (cutV xs lo hi) Q
theorem s_tup : SlR X rSl2 := by
 intro pins s σ H x v vl vu lo hi sl Q I rx hs pl pu h
 obtain ⟨a, xs, rfl, ha, q⟩ := h
 cases rx
 obtain ⟨its, r, ht, hz⟩ := I.tuple (SqT.of ha)
 have hlen : its.toArray.size = xs.length := by rw [List.size_toArray]; exact r.length.symm
 refine ⟨"tuple", _, PyProof.Rows.slot_tuple_getitem.lookup, ht.typeIs, ?_⟩
 by_cases hw : HT.sIx xs.length 0 lo = 0 ∧ HT.sIx xs.length xs.length hi = xs.length
 ·refine whole_cut ht hs pl pu (by rw [hlen]; exact hw) ⟨.ref a, H, I, rfl, q a H (Same.refl _) ?_⟩
  unfold cutV
  rw [hw.1, hw.2, List.drop_zero, Nat.sub_zero, List.take_length]
  exact ha
 ·refine HT.getItem_tuple_cut ht hs pl pu (by rw [hlen]; exact hw) ?_ (by rw [hlen]; exact hz)
  rw [hlen]
  have e : its.toArray.toList = its := rfl
  rw [e]
  exact I.gotNew (t' := s.toks) q ((r.drop _).take _) (Nat.le_trans (cutV_length xs lo hi) hz)
end
end L2

end

section
namespace L2
open PySem PySem.Spec PyProof.Rows
open AutoSeq1 (wpAny_loadPart')
section
variable {X : Cx}
theorem fm_congr {α β : Type} {f g : α → Option β} : ∀ (l : List α), (∀ k ∈ l, f k = g k) → l.filterMap f = l.filterMap g
 | [], _ => rfl
 | a :: l, h => by
  rw [List.filterMap_cons, List.filterMap_cons, h a List.mem_cons_self, fm_congr l fun k hk => h k (List.mem_cons_of_mem _ hk)]
theorem rev_pick (xs : List Value) : ((List.range xs.length).filterMap fun (k : Nat) => xs.toArray[(((xs.length : Int) - 1) + (k : Int) * (-1)).toNat]?).toArray = xs.reverse.toArray := by
 have e : ∀ k ∈ List.range xs.length, (fun (k : Nat) => xs.toArray[(((xs.length : Int) - 1) + (k : Int) * (-1)).toNat]?) k = xs.reverse[k]? := fun k hk => by
  have hk' := List.mem_range.mp hk
  have : (((xs.length : Int) - 1) + (k : Int) * (-1)).toNat = xs.length - 1 - k := by omega
  dsimp only
  rw [this, List.getElem?_reverse hk']
  simp
 rw [fm_congr _ e]
 congr 1
 have gen : ∀ (l : List Value) (n : Nat), n ≤ l.length → (List.range n).filterMap (fun k => l[k]?) = l.take n := fun l n => by
  induction n with
  | zero => intro _; simp
  | succ n ih =>
   intro hn
   rw [List.range_succ, List.filterMap_append, ih (by omega), List.take_add_one]
   rw [List.getElem?_eq_getElem (by omega)]
   simp [List.getElem?_eq_getElem (show n < l.length by omega)]
 have this : ∀ (l : List Value), (List.range l.length).filterMap (fun k => l[k]?) = l := fun l => by rw [gen l l.length (Nat.le_refl _), List.take_length]
 have := this xs.reverse
 rw [List.length_reverse] at this
 exact this
def cDict : TE := fun _ H Q => ∀ p, H p = none → Q (.ref p) (upd H p (.dK []))
def wideD : List (PyData × PyData) → Nat | [] => 2 | [(.int i, .int j)] => if i = 0 ∧ j = 1 then 6 else 10 ^ 9 | _ => 10 ^ 9
mutual
/-- how long a text may become -/
def wide : PyData → Nat
 | .none => 4 | .bool _ => 5 | .int i => if i.natAbs < 10 ^ 31 then 40 else 10 ^ 9 | .str x => (reprText x).length
 | .tuple ds => wideAll ds + 4 | .list ds => wideAll ds + 4 | .dict kvs => wideD kvs
def wideAll : List PyData → Nat
 | [] => 0
 | d :: ds => wide d + 2 + wideAll ds
end
end
end L2

end

section
namespace L2
open PySem PySem.Spec PyProof.Rows
theorem textFrom_up : ∀ (ts : List Str) (k : Nat) (acc : Str), (textFrom k acc ts).length ≤ acc.length + piled ts
 | [], k, acc => by show acc.length ≤ _; omega
 | t :: ts, k, acc => by
  have ih := textFrom_up ts
  unfold textFrom
  rw [PySem.piled_cons]
  refine Nat.le_trans (ih _ _) ?_
  have e : (acc ++ (if k > 0 then ", " else "" : String) ++ t).length = acc.length + (if k > 0 then 2 else 0) + t.length := by
   rw [strLen_append, strLen_append]
   split <;> rfl
  rw [e]
  split <;> omega
theorem listText_up (ts : List Str) : (listText ts).length ≤ piled ts + 2 := by
 unfold listText
 rw [strLen_append]
 have := textFrom_up ts 0 "["
 have e1 : (Str.ofString "[").length = 1 := rfl
 have e2 : (Str.ofString "]").length = 1 := rfl
 omega
theorem tupleText_up (ts : List Str) : (tupleText ts).length ≤ piled ts + 4 := by
 unfold tupleText
 rw [strLen_append, strLen_append]
 have e1 : (Str.ofString "(").length = 1 := rfl
 have e2 : (Str.ofString (if (ts.length == 1) = true then ",)" else ")")).length ≤ 2 := by
  split
  ·exact Nat.le_refl 2
  ·exact Nat.le_succ 1
 have e3 : (Str.join (Str.ofString ", ") ts).length ≤ piled ts := by
  cases ts with
  | nil => exact Nat.zero_le _
  | cons a r => have := join_length_add (a :: r) (by simp); omega
 omega
theorem int_short {i : Int} (h : i.natAbs < 10 ^ 31) : (Str.ofString (toString i)).length ≤ 40 := by
 have h1 := int_text_length_le10 (a := i) (k := 31) (by decide) h
 have h2 : (Str.ofString (toString i)).length = (toString i).length := by rw [PySem.ofString_length]
 omega
theorem int_log {i : Int} (h : i.natAbs < 10 ^ 31) : i.natAbs.log2 < 1920 := by
 by_cases z : i.natAbs = 0
 ·rw [z]; decide
 ·exact Nat.lt_trans ((Nat.log2_lt z).mpr (Nat.lt_trans h (show 10 ^ 31 < 2 ^ 120 by decide))) (by decide)
mutual
theorem wide_ok : ∀ d : PyData, wide d < 10 ^ 9 → d.showable = true ∧ d.shown.length ≤ wide d
 | .none, _ => ⟨rfl, by show 4 ≤ 4; decide⟩
 | .bool b, _ => ⟨rfl, by cases b <;> (unfold PyData.shown wide; decide)⟩
 | .int i, h => by
  unfold wide at h ⊢
  by_cases c : i.natAbs < 10 ^ 31
  ·rw [if_pos c]
   refine ⟨?_, ?_⟩
   ·unfold PyData.showable; exact decide_eq_true (int_log c)
   ·unfold PyData.shown; exact int_short c
  ·rw [if_neg c] at h; exact absurd h (Nat.lt_irrefl _)
 | .str x, h => ⟨rfl, by unfold PyData.shown wide; exact Nat.le_refl _⟩
 | .tuple ds, h => by
  unfold wide at h ⊢
  obtain ⟨a, b⟩ := wideAll_ok ds (by omega)
  refine ⟨by unfold PyData.showable; exact a, ?_⟩
  unfold PyData.shown
  exact Nat.le_trans (tupleText_up _) (by omega)
 | .list ds, h => by
  unfold wide at h ⊢
  obtain ⟨a, b⟩ := wideAll_ok ds (by omega)
  refine ⟨by unfold PyData.showable; exact a, ?_⟩
  unfold PyData.shown
  exact Nat.le_trans (listText_up _) (by omega)
 | .dict kvs, h => by
  unfold wide at h
  unfold wideD at h
  split at h
  ·exact ⟨rfl, by decide +kernel⟩
  ·split at h
   ·rename_i i j c
    obtain ⟨rfl, rfl⟩ := c
    exact ⟨by decide +kernel, by decide +kernel⟩
   ·exact absurd h (Nat.lt_irrefl _)
  ·exact absurd h (Nat.lt_irrefl _)
theorem wideAll_ok : ∀ ds : List PyData, wideAll ds < 10 ^ 9 → PyData.showableAll ds = true ∧ piled (PyData.shownAll ds) ≤ wideAll ds
 | [], _ => ⟨rfl, by decide⟩
 | d :: ds, h => by
  unfold wideAll at h ⊢
  obtain ⟨a, b⟩ := wide_ok d (by omega)
  obtain ⟨a', b'⟩ := wideAll_ok ds (by omega)
  refine ⟨by unfold PyData.showableAll; rw [a, a']; rfl, ?_⟩
  unfold PyData.shownAll
  rw [PySem.piled_cons]
  omega
end
section
variable {X : Cx} {pins : List (Addr × Obj)} {σ : St} {H : Hp} {s : Shared}
mutual
theorem Rep.reads {p : Addr} (I : Inv X pins σ H s) : ∀ (d : PyData) (v : V) (u : Value), d.hasDict = false → Rep p H d v → RelV v u → ∃ as, Reads s.heap u d as
 | .none, v, u, _, r, q => by unfold Rep at r; subst r; cases q; exact ⟨_, .none⟩
 | .bool b, v, u, _, r, q => by unfold Rep at r; subst r; cases q; exact ⟨_, .bool b⟩
 | .int i, v, u, _, r, q => by unfold Rep at r; subst r; obtain ⟨t, rfl⟩ := q; exact ⟨_, .int i t⟩
 | .str x, v, u, _, r, q => by unfold Rep at r; subst r; obtain ⟨t, rfl⟩ := q; exact ⟨_, .str x t⟩
 | .tuple ds, v, u, hd, r, q => by
  unfold Rep at r
  obtain ⟨a, xs, rfl, ha, rs⟩ := r
  cases q
  obtain ⟨its, rv, ⟨o, ho, hc, n, hdt⟩, _⟩ := I.tuple (SqT.of ha)
  obtain ⟨as, ra⟩ := Reps.reads I ds xs its (by unfold PyData.hasDict at hd; exact hd) rs rv
  exact ⟨as, .tuple ho hc hdt ra⟩
 | .list ds, v, u, hd, r, q => by
  unfold Rep at r
  obtain ⟨a, xs, rfl, _, ha, rs⟩ := r
  cases q
  obtain ⟨its, rv, ⟨o, n, ho, hc, _, hdt⟩, _⟩ := I.list (SqL.of ha)
  obtain ⟨as, ra⟩ := Reps.reads I ds xs its (by unfold PyData.hasDict at hd; exact hd) rs rv
  exact ⟨a :: as, .list ho hc hdt ra⟩
 | .dict kvs, v, u, hd, _, _ => by unfold PyData.hasDict at hd; cases hd
theorem Reps.reads {p : Addr} (I : Inv X pins σ H s) : ∀ (ds : List PyData) (xs : List V) (us : List Value), PyData.hasDictAll ds = false → Reps p H ds xs → Vals xs us → ∃ as, ReadsAll s.heap us ds as
 | [], xs, us, _, r, q => by unfold Reps at r; subst r; cases q; exact ⟨_, .nil⟩
 | d :: ds, xs, us, hd, r, q => by
  unfold Reps at r
  obtain ⟨x, t, rfl, rx, rt⟩ := r
  unfold PyData.hasDictAll at hd
  obtain ⟨h1, h2⟩ := Bool.or_eq_false_iff.mp hd
  cases q with
  | cons q1 q2 =>
   obtain ⟨as, ra⟩ := Rep.reads I d x _ h1 rx q1
   obtain ⟨bs, rb⟩ := Reps.reads I ds t _ h2 rt q2
   exact ⟨as ++ bs, .cons ra rb⟩
end
mutual
/-- data without lists -/
def noLst : PyData → Bool
 | .list _ => false | .tuple ds => noLsts ds | .none => true | .bool _ => true | .int _ => true | .str _ => true | .dict _ => true
def noLsts : List PyData → Bool
 | [] => true
 | d :: ds => noLst d && noLsts ds
end
mutual
theorem Rep.readsD {p : Addr} (I : Inv X pins σ H s) : ∀ (d : PyData) (v : V) (u : Value), noLst d = true → Rep p H d v → RelV v u → ∃ as, Reads s.heap u d as ∧ ¬ sysModules ∈ as
 | .none, v, u, _, r, q => by unfold Rep at r; subst r; cases q; exact ⟨_, .none, List.not_mem_nil⟩
 | .bool b, v, u, _, r, q => by unfold Rep at r; subst r; cases q; exact ⟨_, .bool b, List.not_mem_nil⟩
 | .int i, v, u, _, r, q => by unfold Rep at r; subst r; obtain ⟨t, rfl⟩ := q; exact ⟨_, .int i t, List.not_mem_nil⟩
 | .str x, v, u, _, r, q => by unfold Rep at r; subst r; obtain ⟨t, rfl⟩ := q; exact ⟨_, .str x t, List.not_mem_nil⟩
 | .tuple ds, v, u, hd, r, q => by
  unfold Rep at r
  obtain ⟨a, xs, rfl, ha, rs⟩ := r
  cases q
  obtain ⟨its, rv, ⟨o, ho, hc, n, hdt⟩, _⟩ := I.tuple (SqT.of ha)
  obtain ⟨as, ra, hn⟩ := Reps.readsD I ds xs its (by unfold noLst at hd; exact hd) rs rv
  exact ⟨as, .tuple ho hc hdt ra, hn⟩
 | .list ds, v, u, hd, r, q => by unfold noLst at hd; cases hd
 | .dict kvs, v, u, hd, r, q => by
  unfold Rep at r
  obtain ⟨a, ks, rfl, _, dk, hb⟩ := r
  cases q
  obtain ⟨_, hne, vs, kv, o, es, ep, ho, hx, hdt, hl0, hl, hll⟩ := I.hok a _ hb
  have hsm : sysModules ≠ a := fun e => by rw [← e] at hne; simp at hne
  rcases dk with ⟨rfl, rfl⟩ | ⟨rfl, rfl⟩
  ·cases kv
   have hes : es.toList = [] := by
    generalize es.toList = l at hl
    cases hl; rfl
   exact ⟨a :: [] ++ [], .dict ho hx.1 hdt (by rw [hes]; exact .nil) (by rw [hes]; exact .nil), by simpa using hsm⟩
  ·cases kv with
   | cons h1 t1 =>
    cases t1
    obtain ⟨e1, e2⟩ := h1
    generalize hes : es.toList = l at hl
    cases hl with
    | cons k1 k2 k3 =>
     cases k3
     rename_i kv' e
     have k1' : keyIs (.inl 0) e.key = true := by
      have e1' : (Sum.inl 0 : Key) = kv'.1 := e1
      rw [e1']; exact k1
     obtain ⟨t, ht⟩ : ∃ t, e.key = Value.int 0 t := by
      rcases keyIs_shape k1' with ⟨i, t, h, h'⟩ | ⟨x, t, h, _⟩
      ·cases h; exact ⟨t, h'⟩
      ·cases h
     obtain ⟨t1, ht1⟩ : ∃ t, kv'.2 = Value.int 1 t := e2
     refine ⟨a :: ([] ++ []) ++ ([] ++ []), .dict (kvs := [(.int 0, .int 1)]) ho hx.1 hdt ?_ ?_, by simpa using hsm⟩
     ·rw [hes]
      show ReadsAll _ [e.key] [.int 0] _
      rw [ht]
      exact .cons (.int 0 t) .nil
     ·rw [hes]
      show ReadsAll _ [e.val] [.int 1] _
      rw [k2, ht1]
      exact .cons (.int 1 t1) .nil
theorem Reps.readsD {p : Addr} (I : Inv X pins σ H s) : ∀ (ds : List PyData) (xs : List V) (us : List Value), noLsts ds = true → Reps p H ds xs → Vals xs us → ∃ as, ReadsAll s.heap us ds as ∧ ¬ sysModules ∈ as
 | [], xs, us, _, r, q => by unfold Reps at r; subst r; cases q; exact ⟨_, .nil, List.not_mem_nil⟩
 | d :: ds, xs, us, hd, r, q => by
  unfold Reps at r
  obtain ⟨x, t, rfl, rx, rt⟩ := r
  unfold noLsts at hd
  obtain ⟨h1, h2⟩ := (Bool.and_eq_true _ _).mp hd
  cases q with
  | cons q1 q2 =>
   obtain ⟨as, ra, ha⟩ := Rep.readsD I d x _ h1 rx q1
   obtain ⟨bs, rb, hb⟩ := Reps.readsD I ds t _ h2 rt q2
   exact ⟨as ++ bs, .cons ra rb, fun z => (List.mem_append.mp z).elim ha hb⟩
end
structure Nice (d : PyData) : Prop where
 w : wide d ≤ 1000000
 dp : d.depth ≤ 20
 nd : d.hasDict = false ∨ noLst d = true
def rRepr : List V → Hp → VK → Prop := fun xs H Q => match xs with | [v] => ∃ p d, Rep p H d v ∧ Nice d ∧ Q (.str d.shown) H | _ => False
theorem call_repr {k : Nat} (hr : Room k X.A) : CallR X (.builtin "repr") rRepr := by
 intro pins s σ H xs us Q I r h
 unfold rRepr at h
 split at h
 ·rename_i v
  obtain ⟨p, d, rd, nd, q⟩ := h
  obtain ⟨u, rfl, ru⟩ := r.one
  obtain ⟨sh, sl⟩ := wide_ok d (Nat.lt_of_le_of_lt nd.w (by decide))
  have big : (1000000 : Nat) ≤ sizeLine := by decide
  have hsz : d.shown.length ≤ sizeLine := Nat.le_trans sl (Nat.le_trans nd.w big)
  have un := hr.un
  have fin : ∀ h' tk t, (∀ b o, s.heap.get? b = some o → h'.get? b = some o) → EP X pins σ Q (.str d.shown t) { s with heap := h', toks := tk } := fun h' tk t hk => ⟨.str d.shown, H, I.kept hk, ⟨t, rfl⟩, q⟩
  have isref : ∀ a, u = .ref a → wpAny (model X.prog X.w) X.A (call (.builtin "repr") [u]) (EP X pins σ Q) X.xe s := fun a e => by
   subst e
   have dpt : X.A.units + (d.depth + 1) < cLine := by have := nd.dp; omega
   rcases nd.nd with hd | hd
   ·obtain ⟨as, ra⟩ := Rep.reads I d v _ hd rd ru
    exact repr_of_reads' ra sh (PyData.noDict_hsm hd) hr.gd dpt (fun _ _ e => e) (fun h' t tk hk => fin h' tk t hk) hsz
   ·obtain ⟨as, ra, hm⟩ := Rep.readsD I d v _ hd rd ru
    exact repr_of_reads' ra sh (fun _ => hm) hr.gd dpt (fun _ _ e => e) (fun h' t tk hk => fin h' tk t hk) hsz
  cases d with
  | none => unfold Rep at rd; subst rd; cases ru; exact PySem.P.repr_of_none (fin s.heap _ _ fun _ _ e => e)
  | bool b => unfold Rep at rd; subst rd; cases ru; exact PySem.P.repr_of_bool (by have := fin s.heap (s.toks + 1) s.toks fun _ _ e => e; unfold PyData.shown at this; exact this)
  | int i =>
   unfold Rep at rd; subst rd; obtain ⟨t, rfl⟩ := ru
   refine PySem.P.repr_of_int ?_ (by have := fin s.heap (s.toks + 1) s.toks fun _ _ e => e; unfold PyData.shown at this; exact this)
   unfold PyData.showable at sh; exact of_decide_eq_true sh
  | str x =>
   unfold Rep at rd; subst rd; obtain ⟨t, rfl⟩ := ru
   exact PySem.P.repr_of_str (by have := fin s.heap (s.toks + 1) s.toks fun _ _ e => e; unfold PyData.shown at this; exact this) (by unfold PyData.shown at hsz; exact hsz)
  | tuple ds => have rd' := rd; unfold Rep at rd'; obtain ⟨a, xs, rfl, _⟩ := rd'; exact isref a ru
  | list ds => have rd' := rd; unfold Rep at rd'; obtain ⟨a, xs, rfl, _⟩ := rd'; exact isref a ru
  | dict kvs => have rd' := rd; unfold Rep at rd'; obtain ⟨a, ks, rfl, _⟩ := rd'; exact isref a ru
 ·exact h.elim
theorem Inv.big (I : Inv X pins σ H s) : sysModules < s.heap.objs.size := by
 have h : mainGlobals < s.heap.objs.size := (I.mod.glob.keeps I.bk).lt
 exact Nat.lt_trans (by decide) h
theorem c_dict {pos : Pos} : PE X (.Dict [] [] pos) cDict := fun pins s σ H Q I h =>
 wpAny_Dict_empty ⟨.ref s.heap.objs.size, _, I.laid (a := s.heap.objs.size) (o := .dK []) (t' := s.toks) (fun _ _ q => Heap.get?_push_of_some _ q) (Nat.le_refl _) ⟨Nat.zero_le _, beq_eq_false_iff_ne.mpr (Ne.symm (Nat.ne_of_lt I.big)), [], .nil, Heap.DictOf.new s.heap⟩, rfl, h _ (I.hok.fresh (Nat.le_refl _))⟩
end
end L2

end

section
namespace L2
open PySem PySem.Spec PyProof.Rows
section
variable {X : Cx} {P : Program} {w : World}
theorem ixL (K : PySem.W.Frag) (h : X.K = K := by rfl) : IxR X (rIxL K) := h ▸ ix_list
theorem ixT (K : PySem.W.Frag) (h : X.K = K := by rfl) : IxR X (rIxT K) := h ▸ ix_tup
theorem slL (K : PySem.W.Frag) (h : X.K = K := by rfl) : SlR X (rSlL K) := h ▸ sl_list
theorem inS (K : PySem.W.Frag) (h : X.K = K := by rfl) : OpR X (compareOp .In) (rIn K false) := h ▸ op_in_seq
theorem ninS (K : PySem.W.Frag) (h : X.K = K := by rfl) : OpR X (compareOp .NotIn) (rIn K true) := h ▸ op_notIn_seq
def rLen (K : PySem.W.Frag) : List V → Hp → VK → Prop := fun xs H Q => ∃ p ys, xs = [.ref p] ∧ (SqL K H p ys ∨ SqT K H p ys) ∧ Q (.int (ys : List V).length) H
theorem lenS (K : PySem.W.Frag) (h : X.K = K := by rfl) : CallR X (.builtin "len") (rLen K) := h ▸ call_len_seq
def rTupOf (K : PySem.W.Frag) : List V → Hp → VK → Prop := fun xs H Q => ∃ p ys, xs = [.ref p] ∧ ((SqL K H p ys ∧ ∀ l, H l = none → Q (.ref l) (upd H l (.tup ys))) ∨ (SqT K H p ys ∧ Q (.ref p) H))
theorem tupOf (K : PySem.W.Frag) (h : X.K = K := by rfl) : CallR X (.type "tuple") (rTupOf K) := h ▸ call_tuple_of
theorem pgT (K : PySem.W.Frag) {es : List Expr} {k : Nat} {t : TGs} {n : Nat} {pos : Pos} (h : PGs X es t) (hK : X.K = K := by rfl) (hc : X.calm = true := by rfl) (hn : (assignEach es X.env).length = n := by rfl) (hst : (assignEach es X.env).findIdx? (·.1) = none := by rfl) :
  PG X (.Tuple es k pos) (gTup K n t) := hK ▸ pg_tup hc h hn hst
theorem piL (K : PySem.W.Frag) {tg l : Expr} {tl : TE} (hl : PE X l tl) (h : X.K = K := by rfl) : PI X tg l (iList K tl) := h ▸ pi_list hl
theorem piT (K : PySem.W.Frag) {tg l : Expr} {tl : TE} (hl : PE X l tl) (h : X.K = K := by rfl) : PI X tg l (iTup K tl) := h ▸ pi_tup hl
theorem piEL (P : Program) (w : World) (K : PySem.W.Frag) {es : List Expr} {k : Nat} {p pos pos' : Pos} {a : Expr} {ta : TA} (hg : Gl X "enumerate") (hm : X.mg "enumerate" = none) (ha : PA X [a] ta) (hP : X.prog = P := by rfl) (hw : X.w = w := by rfl) (hK : X.K = K := by rfl) (hs : starEach [a] X.env = [(false, eval a X.env)] := by rfl) :
  PI X (.Tuple es k pos') (.Call (.Name "enumerate" p) [a] [] pos) (iEnum (seqL P w K) ta) := by subst hP hw hK; exact pi_enumL hg hm ha hs
theorem piET (P : Program) (w : World) (K : PySem.W.Frag) {es : List Expr} {k : Nat} {p pos pos' : Pos} {a : Expr} {ta : TA} (hg : Gl X "enumerate") (hm : X.mg "enumerate" = none) (ha : PA X [a] ta) (hP : X.prog = P := by rfl) (hw : X.w = w := by rfl) (hK : X.K = K := by rfl) (hs : starEach [a] X.env = [(false, eval a X.env)] := by rfl) :
  PI X (.Tuple es k pos') (.Call (.Name "enumerate" p) [a] [] pos) (iEnum (seqT P w K) ta) := by subst hP hw hK; exact pi_enumT hg hm ha hs
theorem piZTL (P : Program) (w : World) (K : PySem.W.Frag) {es : List Expr} {k : Nat} {p pos pos' : Pos} {e1 e2 : Expr} {ta : TA} (hg : Gl X "zip") (hm : X.mg "zip" = none) (ha : PA X [e1, e2] ta) (hP : X.prog = P := by rfl) (hw : X.w = w := by rfl) (hK : X.K = K := by rfl)
  (hs : starEach [e1, e2] X.env = [(false, eval e1 X.env), (false, eval e2 X.env)] := by rfl) (hs2 : starEach [e2] X.env = [(false, eval e2 X.env)] := by rfl) :
  PI X (.Tuple es k pos') (.Call (.Name "zip" p) [e1, e2] [] pos) (iZip (seqT P w K) (seqL P w K) ta) := by subst hP hw hK; exact pi_zipTL hg hm ha hs hs2
theorem piZTT (P : Program) (w : World) (K : PySem.W.Frag) {es : List Expr} {k : Nat} {p pos pos' : Pos} {e1 e2 : Expr} {ta : TA} (hg : Gl X "zip") (hm : X.mg "zip" = none) (ha : PA X [e1, e2] ta) (hP : X.prog = P := by rfl) (hw : X.w = w := by rfl) (hK : X.K = K := by rfl)
  (hs : starEach [e1, e2] X.env = [(false, eval e1 X.env), (false, eval e2 X.env)] := by rfl) (hs2 : starEach [e2] X.env = [(false, eval e2 X.env)] := by rfl) :
  PI X (.Tuple es k pos') (.Call (.Name "zip" p) [e1, e2] [] pos) (iZip (seqT P w K) (seqT P w K) ta) := by subst hP hw hK; exact pi_zipTT hg hm ha hs hs2
end
end L2

end

section
namespace L2
open PySem PySem.Spec PyProof.Rows
section
variable {X : Cx}
end
section
variable {X : Cx} {tg : Expr}
end
end L2

end

section
namespace MF
open PySem PySem.Spec PyProof.Rows L2
theorem _root_.L2.walk_enum {P : Program} {w : World} {K : PySem.W.Frag} {S : SeqK P w K} {a : Addr} {xs : List V} {cap : List (Option Nat)} {g : TG} {tt : TT} {te : TE} {σ : L2.St} {Q : List V → Hp → Prop} {H : Hp} (Pv : Nat → List V → Hp → Prop) (hn : xs.length ≤ 100000) (h0 : Pv 0 [] H) (hz : ∀ i zs H, Pv i zs H → zs.length ≤ i)
  (hl : ∀ i zs H, Pv i zs H → S.Sq H a xs)
  (hs : ∀ i x zs H T, xs[i]? = some x → Pv i zs H → H T = none → g (.ref T) (capOf cap σ) (upd H T (.tup [.int i, x])) fun σ2 H2 => Keep (capOf cap σ) σ2 ∧ tt σ2 H2 fun b H3 => br b (te σ2 H3 fun y H4 => Pv (i + 1) (zs ++ [y]) H4) (Pv (i + 1) zs H3))
  (hd : ∀ zs H, Pv xs.length zs H → Q zs H) : Walk (Ite S a) cap g tt te σ Q H :=
 walk_n xs.length Pv hn h0 hz (fun i zs H hi p => by
  have q := hl i zs H p
  refine ⟨⟨xs, xs[i], q, by simp [hi]⟩, fun v H' ⟨T, e, n, y⟩ => ?_⟩
  subst e
  rw [y xs xs[i] q (by simp [hi])]
  exact hs i xs[i] zs H T (by simp [hi]) p n)
  fun zs H p => ⟨⟨xs, hl _ zs H p, rfl⟩, hd zs H p⟩
theorem _root_.L2.for_enum {P : Program} {w : World} {K : PySem.W.Frag} {S : SeqK P w K} {a : Addr} {xs : List V} {g : TG} {tb : TS} {D : Ends} {σ : L2.St} {H : Hp} (Pv : Nat → L2.St → Hp → Prop) (h0 : Pv 0 σ H) (hl : ∀ i σ H, Pv i σ H → S.Sq H a xs)
  (hs : ∀ i x σ H T, xs[i]? = some x → Pv i σ H → H T = none → g (.ref T) σ (upd H T (.tup [.int i, x])) fun σ2 H2 => tb { D with nx := Pv (i + 1), ct := Pv (i + 1), bk := D.nx } σ2 H2) (hd : ∀ σ H, Pv xs.length σ H → D.nx σ H) :
  ∃ W : Nat → Nat → L2.St → Hp → Prop, (∃ m, W 0 m σ H) ∧ ∀ i m σ H, W i m σ H →
   ((Ite S a).stop i H ∧ D.nx σ H) ∨ ((Ite S a).go i H ∧ ∃ N : L2.St → Hp → Prop, (∀ σ' H', N σ' H' → ∃ m', m' < m ∧ W (i + 1) m' σ' H') ∧ ∀ x H', (Ite S a).yld i H x H' → g x σ H' fun σ2 H2 => tb { D with nx := N, ct := N, bk := D.nx } σ2 H2) := by
 refine ⟨fun i m σ H => m = xs.length - i ∧ i ≤ xs.length ∧ Pv i σ H, ⟨xs.length, by simp, Nat.zero_le _, h0⟩, ?_⟩
 rintro i m σ H ⟨rfl, hi, p⟩
 have q := hl i σ H p
 by_cases hlt : i < xs.length
 ·refine .inr ⟨⟨xs, xs[i], q, by simp [hlt]⟩, Pv (i + 1), fun σ' H' p' => ⟨xs.length - (i + 1), by omega, rfl, hlt, p'⟩, fun x H' ⟨T, e, n, y⟩ => ?_⟩
  subst e
  rw [y xs xs[i] q (by simp [hlt])]
  exact hs i xs[i] σ H T (by simp [hlt]) p n
 ·obtain rfl : i = xs.length := by omega
  exact .inl ⟨⟨xs, q, rfl⟩, hd σ H p⟩
structure PL where
 bs : List (Int × Int)
 es : List (Int × Int × Int)
 lo : Int
 hi : Int
 st : Int
abbrev bD (q : Int × Int) : PyData := .tuple [.int q.1, .int q.2]
abbrev eD (q : Int × Int × Int) : PyData := .tuple [.int q.1, .int q.2.1, .int q.2.2]
def PL.d (P : PL) : PyData := .tuple [.tuple (P.bs.map bD), .tuple (P.es.map eD), .tuple [.int P.lo, .int P.hi, .int P.st]]
structure PL.ok (P : PL) : Prop where
 b : ∀ q ∈ P.bs, 1 ≤ q.1 ∧ q.1 ≤ 9 ∧ 1 ≤ q.2 ∧ q.2 ≤ 9
 b1 : 1 ≤ P.bs.length
 b4 : P.bs.length ≤ 4
 e : ∀ q ∈ P.es, 1 ≤ q.1 ∧ q.1 ≤ 9 ∧ 0 ≤ q.2.1 ∧ q.2.1 ≤ 7 ∧ 1 ≤ q.2.2 ∧ q.2.2 ≤ 8
 e4 : P.es.length ≤ 4
 lo0 : 0 ≤ P.lo
 ls : P.lo ≤ P.st
 sh : P.st ≤ P.hi
 h4 : P.hi ≤ 40
structure FT where
 b : Int
 out : Bool
 f : Int
 l : Int
def wS (b : Bool) : Str := if b then "out" else "scaled"
abbrev wV (b : Bool) : V := .str (wS b)
abbrev FT.d (x : FT) : PyData := .tuple [.int x.b, .str (wS x.out), .int x.f, .int x.l]
structure SY where
 ex : List Int
 fs : List FT
def SY.d (S : SY) : PyData := .tuple [.tuple (S.ex.map .int), .tuple (S.fs.map FT.d)]
structure FT.ok (x : FT) (n h : Nat) : Prop where
 b0 : 0 ≤ x.b
 bn : x.b < n
 f0 : 0 ≤ x.f
 fl : x.f ≤ x.l
 lh : x.l < h
structure SY.ok (S : SY) (n : Nat) : Prop where
 x1 : 1 ≤ S.ex.length
 x8 : S.ex.length ≤ 8
 x : ∀ u ∈ S.ex, 0 ≤ u ∧ u ≤ 20
 f4 : S.fs.length ≤ 4
 f : ∀ x ∈ S.fs, x.ok n S.ex.length
def capU (ws : List Bool) (m : Int) : Int := if ws.any id then 0 else if ws.any (!·) then m / 2 else m
def hitF (b h : Int) (x : FT) : Bool := x.b == b && decide (x.f ≤ h) && decide (h ≤ x.l)
def wordsOf (fs : List FT) (b h : Int) : List Bool := (fs.filter (hitF b h)).map FT.out
def capsIn (bs : List (Int × Int)) (fs : List FT) (h : Int) : List Int := bs.zipIdx.map fun q => capU (wordsOf fs q.2 h) q.1.1
def caps (P : PL) (S : SY) : List (List Int) := (List.range S.ex.length).map fun (h : Nat) => capsIn P.bs S.fs (h : Int)
def drawn (q : Int × Int × Int) (h : Int) : Int := if h < q.2.1 ∨ (h - q.2.1) % q.2.2 ≠ 0 then 0 else q.1
def draws (P : PL) (S : SY) : List Int := S.ex.zipIdx.map fun q => q.1 + (P.es.map fun e => drawn e q.2).sum
abbrev rowD (r : List Int) : PyData := .tuple (r.map .int)
def capsD (P : PL) (S : SY) : PyData := .tuple ((caps P S).map rowD)
def ret (H : Hp) (Q : VK) (p : Addr) (d : PyData) : Prop := ∀ v H', Same H H' → Rep p H' d v → Q v H'
theorem take_next {α : Type} {l : List α} {i : Nat} {x : α} (h : l[i]? = some x) : l.take (i + 1) = l.take i ++ [x] := by rw [List.take_add_one, h]; rfl
theorem capsIn_get {bs : List (Int × Int)} {fs : List FT} {h : Int} {i : Nat} {q : Int × Int} (hq : bs[i]? = some q) : (capsIn bs fs h)[i]? = some (capU (wordsOf fs i h) q.1) := by
 unfold capsIn; rw [List.getElem?_map, List.getElem?_zipIdx, hq]; simp
theorem capsIn_len {bs : List (Int × Int)} {fs : List FT} {h : Int} : (capsIn bs fs h).length = bs.length := by unfold capsIn; simp
theorem caps_get {P : PL} {S : SY} {i : Nat} (h : i < S.ex.length) : (caps P S)[i]? = some (capsIn P.bs S.fs i) := by
 unfold caps; rw [List.getElem?_map, List.getElem?_range h]; rfl
theorem caps_len {P : PL} {S : SY} : (caps P S).length = S.ex.length := by unfold caps; simp
theorem in_out {ws : List Bool} : inV (.str "out") (ws.map wV) = ws.any id := by
 induction ws with
 | nil => rfl
 | cons b ws ih =>
  unfold inV at ih ⊢
  rw [List.map_cons, List.any_cons, ih, List.any_cons]
  cases b <;> rfl
theorem in_scaled {ws : List Bool} : inV (.str "scaled") (ws.map wV) = ws.any (!·) := by
 induction ws with
 | nil => rfl
 | cons b ws ih =>
  unfold inV at ih ⊢
  rw [List.map_cons, List.any_cons, ih, List.any_cons]
  cases b <;> rfl
theorem flat_words {ws : List Bool} : (ws.map wV).all flatV = true := by
 rw [List.all_map, List.all_eq_true]
 intro b _
 rfl
theorem word_known (b : Bool) : inV (wV b) [.str "out", .str "scaled"] = true := by cases b <;> rfl
theorem words_next {fs : List FT} {i : Nat} {x : FT} {b h : Int} (hx : fs[i]? = some x) : wordsOf (fs.take (i + 1)) b h = if hitF b h x then wordsOf (fs.take i) b h ++ [x.out] else wordsOf (fs.take i) b h := by
 unfold wordsOf
 rw [take_next hx, List.filter_append]
 by_cases c : hitF b h x = true
 ·rw [if_pos c, List.filter_cons_of_pos c, List.map_append]; rfl
 ·rw [if_neg c, List.filter_cons_of_neg c, List.filter_nil, List.append_nil]
theorem Reps.mapGot {α : Type} {p : Addr} {H : Hp} {f : α → PyData} {l : List α} {xs : List V} {i : Nat} {x : V} (r : Reps p H (l.map f) xs) (h : xs[i]? = some x) : ∃ a, l[i]? = some a ∧ Rep p H (f a) x := by
 obtain ⟨d, hd, rd⟩ := r.got h
 rw [List.getElem?_map] at hd
 cases z : l[i]? with
 | none => rw [z] at hd; cases hd
 | some a => rw [z] at hd; cases hd; exact ⟨a, rfl, rd⟩
theorem Reps.ints {p : Addr} {H : Hp} : ∀ {ns : List Int} {xs : List V}, Reps p H (ns.map .int) xs → xs = ns.map V.int
 | [], xs, r => by unfold Reps at r; exact r
 | n :: ns, xs, r => by
  rw [List.map_cons] at r
  unfold Reps at r
  obtain ⟨x, t, rfl, rx, rt⟩ := r
  unfold Rep at rx
  rw [rx, Reps.ints rt]; rfl
theorem Reps.ofInts {p : Addr} {H : Hp} : ∀ {ns : List Int}, Reps p H (ns.map .int) (ns.map V.int)
 | [] => .nil
 | n :: ns => .cons Rep.int Reps.ofInts
theorem Reps.snoc {p : Addr} {H : Hp} {ds : List PyData} {xs : List V} {d : PyData} {x : V} (r : Reps p H ds xs) (h : Rep p H d x) : Reps p H (ds ++ [d]) (xs ++ [x]) := r.append (.cons h .nil)
theorem Rep.row {p a : Addr} {H : Hp} {r : List Int} (h : H a = some (.tup (r.map V.int))) : Rep p H (rowD r) (.ref a) := Rep.tup h Reps.ofInts
theorem Same.own {H H' : Hp} {b : Addr} {o : HO} (s : Same H H') (n : H b = none) : Same H (upd H' b o) := fun x u q => by rw [upd_ne (ne_of_none q n)]; exact s x u q
theorem Reps.four {p : Addr} {H : Hp} {a b c d : PyData} {xs : List V} (r : Reps p H [a, b, c, d] xs) : ∃ x y z w, xs = [x, y, z, w] ∧ Rep p H a x ∧ Rep p H b y ∧ Rep p H c z ∧ Rep p H d w := by
 unfold Reps at r; obtain ⟨x, s, rfl, hx, r⟩ := r; unfold Reps at r; obtain ⟨y, s, rfl, hy, r⟩ := r; unfold Reps at r; obtain ⟨z, s, rfl, hz, r⟩ := r; unfold Reps at r; obtain ⟨w, s, rfl, hw, r⟩ := r; unfold Reps at r; subst r; exact ⟨x, y, z, w, rfl, hx, hy, hz, hw⟩
structure Small (n k : Nat) (d : PyData) : Prop where
 w : wide d ≤ n
 dp : d.depth ≤ k
 nd : d.hasDict = false
theorem smallAll {n k : Nat} : ∀ {ds : List PyData}, (∀ d ∈ ds, Small n k d) → wideAll ds ≤ (n + 2) * ds.length ∧ PyData.depthAll ds ≤ k ∧ PyData.hasDictAll ds = false
 | [], _ => ⟨by unfold wideAll; exact Nat.zero_le _, by unfold PyData.depthAll; exact Nat.zero_le _, rfl⟩
 | d :: ds, h => by
  obtain ⟨a, b, c⟩ := smallAll fun x hx => h x (List.mem_cons_of_mem _ hx)
  have s := h d List.mem_cons_self
  refine ⟨?_, ?_, ?_⟩
  ·unfold wideAll
   rw [List.length_cons, Nat.mul_add]
   have := s.w; omega
  ·unfold PyData.depthAll; exact Nat.max_le.mpr ⟨s.dp, b⟩
  ·unfold PyData.hasDictAll; rw [s.nd, c]; rfl
theorem small_tup {n k m : Nat} {ds : List PyData} (h : ∀ d ∈ ds, Small n k d) (hm : (n + 2) * ds.length + 4 ≤ m) : Small m (k + 1) (.tuple ds) := by
 obtain ⟨a, b, c⟩ := smallAll h
 exact ⟨by unfold wide; omega, by unfold PyData.depth; omega, by unfold PyData.hasDict; exact c⟩
theorem Small.nice {n k : Nat} {d : PyData} (h : Small n k d) (h1 : n ≤ 1000000) (h2 : k ≤ 20) : Nice d := ⟨Nat.le_trans h.w h1, Nat.le_trans h.dp h2, .inl h.nd⟩
theorem small_int {i : Int} (h : i.natAbs < 10 ^ 6) : Small 40 0 (.int i) := by
 refine ⟨?_, Nat.le_refl 0, rfl⟩
 unfold wide
 rw [if_pos (Nat.lt_trans h (by decide))]
 exact Nat.le_refl _
theorem small_row {r : List Int} (h : ∀ i ∈ r, i.natAbs < 10 ^ 6) (hl : r.length ≤ 20) : Small 1000 1 (rowD r) := small_tup (n := 40) (k := 0) (fun d hd => by
 obtain ⟨i, hi, rfl⟩ := List.mem_map.mp hd
 exact small_int (h i hi)) (by rw [List.length_map]; omega)
theorem small_rows {rs : List (List Int)} (h : ∀ r ∈ rs, (∀ i ∈ r, i.natAbs < 10 ^ 6) ∧ r.length ≤ 20) (hl : rs.length ≤ 20) : Small 30000 2 (.tuple (rs.map rowD)) := small_tup (n := 1000) (k := 1) (fun d hd => by
 obtain ⟨i, hi, rfl⟩ := List.mem_map.mp hd
 exact small_row (h i hi).1 (h i hi).2) (by rw [List.length_map]; omega)
theorem capU_bd {ws : List Bool} {m : Int} (h0 : 0 ≤ m) (h9 : m ≤ 9) : 0 ≤ capU ws m ∧ capU ws m ≤ m := by
 unfold capU
 split
 ·omega
 ·split
  ·omega
  ·omega
theorem caps_bd {P : PL} {S : SY} (ok : P.ok) : ∀ r ∈ caps P S, (∀ i ∈ r, 0 ≤ i ∧ i ≤ 9) ∧ r.length = P.bs.length := fun r hr => by
 unfold caps at hr
 obtain ⟨h, _, rfl⟩ := List.mem_map.mp hr
 refine ⟨fun i hi => ?_, capsIn_len⟩
 unfold capsIn at hi
 obtain ⟨q, hq, rfl⟩ := List.mem_map.mp hi
 obtain ⟨b1, b2, _⟩ := ok.b q.1 (List.fst_mem_of_mem_zipIdx hq)
 have := capU_bd (ws := wordsOf S.fs q.2 h) (m := q.1.1) (by omega) b2
 omega
theorem capU_of {ws : List Bool} {m : Int} (c : ws.any id = false) : m / (1 + if ws.any (!·) = true then 1 else 0) = capU ws m := by
 unfold capU
 rw [c, if_neg (by decide : ¬ (false = true))]
 cases ws.any (!·) with
 | true => rfl
 | false => exact Int.ediv_one _
end MF

end

section
namespace L2
open PySem PySem.Spec PyProof.Rows
section
variable {X : Cx}
end
end L2

end

section
namespace MF
open PySem PySem.Spec PyProof.Rows L2
theorem _root_.L2.walk_zip {P : Program} {w : World} {K : PySem.W.Frag} {S1 S2 : SeqK P w K} {a b : Addr} {xs ys : List V} {cap : List (Option Nat)} {g : TG} {tt : TT} {te : TE} {σ : L2.St} {Q : List V → Hp → Prop} {H : Hp} (Pv : Nat → List V → Hp → Prop) (hn : xs.length ≤ 100000) (he : xs.length = ys.length) (h0 : Pv 0 [] H) (hz : ∀ i zs H, Pv i zs H → zs.length ≤ i)
  (hl : ∀ i zs H, Pv i zs H → S1.Sq H a xs ∧ S2.Sq H b ys)
  (hs : ∀ i x y zs H T, xs[i]? = some x → ys[i]? = some y → Pv i zs H → H T = none → g (.ref T) (capOf cap σ) (upd H T (.tup [x, y])) fun σ2 H2 => Keep (capOf cap σ) σ2 ∧ tt σ2 H2 fun b H3 => br b (te σ2 H3 fun y H4 => Pv (i + 1) (zs ++ [y]) H4) (Pv (i + 1) zs H3))
  (hd : ∀ zs H, Pv xs.length zs H → Q zs H) : Walk (Itz S1 S2 a b) cap g tt te σ Q H :=
 walk_n xs.length Pv hn h0 hz (fun i zs H hi p => by
  obtain ⟨q1, q2⟩ := hl i zs H p
  have hy : i < ys.length := by omega
  refine ⟨⟨xs, ys, xs[i], ys[i], q1, q2, by simp [hi], by simp [hy]⟩, fun v H' ⟨T, e, n, y⟩ => ?_⟩
  subst e
  rw [y xs ys xs[i] ys[i] q1 q2 (by simp [hi]) (by simp [hy])]
  exact hs i xs[i] ys[i] zs H T (by simp [hi]) (by simp [hy]) p n)
  fun zs H p => ⟨⟨xs, ys, (hl _ zs H p).1, (hl _ zs H p).2, rfl⟩, hd zs H p⟩
theorem Same.evOwn {H H2 H' : Hp} {R : Addr} (s : Same H H2) (n : H R = none) (e : Ev R H2 H') : Same H H' := fun b o q => (e b o (s b o q)).elim (fun ⟨z, _⟩ => by rw [z, n] at q; cases q) id
def FD (F : List (List Int)) : PyData := .tuple (F.map rowD)
structure FOk (P : PL) (S : SY) (F : List (List Int)) : Prop where
 len : F.length = S.ex.length
 row : ∀ (i : Nat) (r : List Int), F[i]? = some r → r.length = P.bs.length
 bd : ∀ (i : Nat) (r : List Int) (j : Nat) (x c : Int), F[i]? = some r → r[j]? = some x → (capsIn P.bs S.fs i)[j]? = some c → 0 ≤ x ∧ x ≤ c
theorem FOk.caps {P : PL} {S : SY} (ok : P.ok) : FOk P S (caps P S) := by
 refine ⟨caps_len, fun i r hr => ?_, fun i r j x c hr hx hc => ?_⟩
 ·exact (caps_bd ok r (List.mem_of_getElem? hr)).2
 ·have hi : i < S.ex.length := by
   have := (List.getElem?_eq_some_iff.mp hr).1
   rw [caps_len] at this; exact this
  rw [caps_get hi] at hr
  cases hr
  rw [hx] at hc
  cases hc
  have := (caps_bd (S := S) ok _ (List.mem_of_getElem? (caps_get hi))).1 x (List.mem_of_getElem? hx)
  omega
structure Tri (p : Addr) (H : Hp) (P : PL) (S : SY) (F : List (List Int)) (v u w : V) : Prop where
 ok : P.ok
 so : S.ok P.bs.length
 fo : FOk P S F
 r : Rep p H P.d v
 ru : Rep p H S.d u
 rw : Rep p H (FD F) w
def made (F : List (List Int)) (i : Nat) : Int := (F.getD i []).sum
def drawnAt (P : PL) (S : SY) (i : Nat) : Int := (draws P S).getD i 0
def blownOf (hi m : Int) : Int := if 0 > m - hi then 0 else m - hi
def mainAt (P : PL) (S : SY) (F : List (List Int)) : Nat → Int
 | 0 => P.st
 | i + 1 => mainAt P S F i + (made F i - drawnAt P S i) - blownOf P.hi (mainAt P S F i + (made F i - drawnAt P S i))
def pmAt (P : PL) (S : SY) (F : List (List Int)) (i : Nat) : Int := mainAt P S F i + (made F i - drawnAt P S i)
structure Run (P : PL) (S : SY) (F : List (List Int)) (k : Nat) (s : Option (Int × Int)) : Prop where
 le : k ≤ S.ex.length
 up : ∀ i, i < k → P.lo ≤ pmAt P S F i
 fin : (s = none ∧ k = S.ex.length) ∨ (k < S.ex.length ∧ pmAt P S F k < P.lo ∧ s = some ((k : Int), P.lo - pmAt P S F k))
end MF

end

section
namespace MF
open PySem PySem.Spec PyProof.Rows L2
end MF

end

section
namespace L2
open PySem PySem.Spec PyProof.Rows
section
variable {X : Cx}
end
end L2

end

section
namespace L2
open PySem PySem.Spec PyProof.Rows
section
variable {X : Cx}
def vsB (sc : Scope) (x : Str) : Bool := match sc.names.lookup x with | some .local => true | some .cell => true | some .free => true | _ => false
def lcB (sc : Scope) (x : Str) : Bool := match sc.names.lookup x with | some .local => true | some .cell => true | _ => false
def llB (sc : Scope) (x : Str) : Bool := match sc.names.lookup x with | some .local => true | _ => false
theorem vis_of {sc : Scope} {x : Str} (h : vsB sc x = true) : Vis sc x := by
 unfold vsB at h
 split at h
 ·exact .inl (by assumption)
 ·exact .inr (.inl (by assumption))
 ·exact .inr (.inr (by assumption))
 ·cases h
theorem loc_of {sc : Scope} {x : Str} (h : lcB sc x = true) : Loc sc x := by
 unfold lcB at h
 split at h
 ·exact .inl (by assumption)
 ·exact .inr (by assumption)
 ·cases h
theorem fl_of {f : Bool} {sc : Scope} {x : Str} (h : (f || llB sc x) = true) : f = true ∨ sc.names.lookup x = some .local := by
 rcases Bool.or_eq_true_iff.mp h with h | h
 ·exact .inl h
 ·unfold llB at h
  split at h
  ·exact .inr (by assumption)
  ·cases h
theorem cw (i : Nat) {x : Str} {pos : Pos} (hN : X.N[i]? = some x) (hv : vsB X.env.scope x = true) (hd : (x == ("__debug__" : Str) || x == ("__classdict__" : Str)) = false) : PE X (.Name x pos) (cVar i) :=
 cv i hN (vis_of hv) (Bool.or_eq_false_iff.mp hd).1 (Bool.or_eq_false_iff.mp hd).2
theorem pgw {x : Str} {pos : Pos} (i : Nat) (hN : X.N.Nodup) (hi : X.N[i]? = some x) (hx : lcB X.env.scope x = true) (hf : (X.fn x || llB X.env.scope x) = true) : PG X (.Name x pos) (gName i) := pg_name hN hi (loc_of hx) (fl_of hf)
def cwB (X : Cx) (i : Nat) (x : Str) : Bool := X.N[i]? == some x && (vsB X.env.scope x && !(x == ("__debug__" : Str) || x == ("__classdict__" : Str)))
theorem cx (i : Nat) {x : Str} {pos : Pos} (h : cwB X i x = true) : PE X (.Name x pos) (cVar i) := by
 obtain ⟨h1, h2⟩ := Bool.and_eq_true_iff.mp h
 obtain ⟨h2, h3⟩ := Bool.and_eq_true_iff.mp h2
 exact cw i (eq_of_beq h1) h2 (by simpa using h3)
def pgB (X : Cx) (i : Nat) (x : Str) : Bool := X.N[i]? == some x && (lcB X.env.scope x && (X.fn x || llB X.env.scope x))
theorem pgx {x : Str} {pos : Pos} (i : Nat) (hN : X.N.Nodup) (h : pgB X i x = true) : PG X (.Name x pos) (gName i) := by
 obtain ⟨h1, h2⟩ := Bool.and_eq_true_iff.mp h
 obtain ⟨h2, h3⟩ := Bool.and_eq_true_iff.mp h2
 exact pgw i hN (eq_of_beq h1) h2 h3
theorem nd_of {l : List Str} (h : decide l.Nodup = true) : l.Nodup := of_decide_eq_true h
def nS : Expr → Bool | .Starred _ _ => false | _ => true
theorem star_of {e : Expr} {es : List Expr} {env : Env} (h : nS e = true) : starEach (e :: es) env = (false, eval e env) :: starEach es env := by
 cases e <;> first | rfl | exact absurd h Bool.false_ne_true
section
variable {e1 e2 e3 e4 : Expr} {t1 t2 t3 t4 : TE}
theorem pa1 (h1 : PE X e1 t1) (hs : nS e1 = true) : PA X [e1] (tCons t1 tNil) := pa_cons h1 pa_nil (star_of hs)
theorem pa2 (h1 : PE X e1 t1) (h2 : PE X e2 t2) (hs : (nS e1 && nS e2) = true) : PA X [e1, e2] (tCons t1 (tCons t2 tNil)) := pa_cons h1 (pa1 h2 (Bool.and_eq_true_iff.mp hs).2) (star_of (Bool.and_eq_true_iff.mp hs).1)
theorem pa3 (h1 : PE X e1 t1) (h2 : PE X e2 t2) (h3 : PE X e3 t3) (hs : (nS e1 && (nS e2 && nS e3)) = true) : PA X [e1, e2, e3] (tCons t1 (tCons t2 (tCons t3 tNil))) := pa_cons h1 (pa2 h2 h3 (Bool.and_eq_true_iff.mp hs).2) (star_of (Bool.and_eq_true_iff.mp hs).1)
theorem pa4 (h1 : PE X e1 t1) (h2 : PE X e2 t2) (h3 : PE X e3 t3) (h4 : PE X e4 t4) (hs : (nS e1 && (nS e2 && (nS e3 && nS e4))) = true) : PA X [e1, e2, e3, e4] (tCons t1 (tCons t2 (tCons t3 (tCons t4 tNil)))) := pa_cons h1 (pa3 h2 h3 h4 (Bool.and_eq_true_iff.mp hs).2) (star_of (Bool.and_eq_true_iff.mp hs).1)
end
end
end L2

end

section
namespace L2
open PySem PySem.Spec PyProof.Rows
section
variable {X : Cx}
theorem cy (i : Nat) {x : Str} {pos : Pos} (h : cwB X i x = true := by rfl) : PE X (.Name x pos) (cVar i) := cx i h
theorem pgy {x : Str} {pos : Pos} (i : Nat) (hN : X.N.Nodup) (h : pgB X i x = true := by rfl) : PG X (.Name x pos) (gName i) := pgx i hN h
section
variable {e1 e2 e3 e4 : Expr} {t1 t2 t3 t4 : TE}
theorem pb1 (h1 : PE X e1 t1) (hs : nS e1 = true := by rfl) : PA X [e1] (tCons t1 tNil) := pa1 h1 hs
theorem pb2 (h1 : PE X e1 t1) (h2 : PE X e2 t2) (hs : (nS e1 && nS e2) = true := by rfl) : PA X [e1, e2] (tCons t1 (tCons t2 tNil)) := pa2 h1 h2 hs
theorem pb3 (h1 : PE X e1 t1) (h2 : PE X e2 t2) (h3 : PE X e3 t3) (hs : (nS e1 && (nS e2 && nS e3)) = true := by rfl) : PA X [e1, e2, e3] (tCons t1 (tCons t2 (tCons t3 tNil))) := pa3 h1 h2 h3 hs
theorem pb4 (h1 : PE X e1 t1) (h2 : PE X e2 t2) (h3 : PE X e3 t3) (h4 : PE X e4 t4) (hs : (nS e1 && (nS e2 && (nS e3 && nS e4))) = true := by rfl) : PA X [e1, e2, e3, e4] (tCons t1 (tCons t2 (tCons t3 (tCons t4 tNil)))) := pa4 h1 h2 h3 h4 hs
end
end
end L2

end

section
namespace L2
open PySem PySem.Spec PyProof.Rows
section
variable {X : Cx}
end
end L2
namespace MF
open PySem PySem.Spec PyProof.Rows L2
end MF

end

section
namespace L2
open PySem PySem.Spec PyProof.Rows
section
variable {prog : Program} {w : World} {A : Around} {R : Result → Shared → Prop} {s : Shared} {elt tg1 it1 tg2 it2 : Expr} {ifs1 ifs2 : List Expr} {scope : Scope} {pos : Pos} {it acc : Value} {env : Env}
end
def tIn2 (wi2 : TI) (g2 : TG) (tt2 : TT) (te : TE) : St → List V → Hp → (List V → Hp → Prop) → Prop := fun σ ys H N => wi2 σ H fun J H1 =>
 ∃ W : Nat → Nat → List V → Hp → Prop, (∃ m, W 0 m ys H1) ∧ ∀ j m zs H, W j m zs H →
  (J.stop j H ∧ N zs H) ∨
  (J.go j H ∧ zs.length < sizeLine ∧ ∃ N2 : List V → Hp → Prop, (∀ zs' H', N2 zs' H' → ∃ m', m' < m ∧ W (j + 1) m' zs' H') ∧ ∀ x H', J.yld j H x H' → g2 x σ H' fun σ3 H2 => Keep σ σ3 ∧ tt2 σ3 H2 fun b H3 =>
   br b (te σ3 H3 fun y H4 => N2 (zs ++ [y]) H4) (N2 zs H3))
end L2

end

section
namespace L2
open PySem PySem.Spec PyProof.Rows
section
variable {X : Cx}
end
end L2
namespace MF
open PySem PySem.Spec PyProof.Rows L2
def steamBy (P : PL) (F : List (List Int)) : List Int := (List.range P.bs.length).map fun b => (F.map fun r => r.getD b 0).sum
def coal (P : PL) (F : List (List Int)) : Int := (((steamBy P F).zip P.bs).map fun q => q.1 * q.2.2).sum
end MF

end

section
namespace L2
open PySem PySem.Spec PyProof.Rows
section
variable {X : Cx}
end
end L2

end

section
namespace L2
open PySem PySem.Spec PyProof.Rows
def splitF (x y : Str) : List Str :=
 if (decide (x.length < y.length) || decide (Builtin.Str.strKind x < Builtin.Str.strKind y)) = true then [x]
 else if (Builtin.Str.occurrences x y 0 x.length (x.length + 1)).isEmpty = true then [x]
 else Builtin.Str.partsBetween x (Builtin.Str.occurrences x y 0 x.length (x.length + 1)) y.length
theorem splitF_len (x y : Str) : (splitF x y).length ≤ x.length + 2 := by
 unfold splitF
 split
 ·exact Nat.le_add_left 1 (x.length + 1)
 ·split
  ·exact Nat.le_add_left 1 (x.length + 1)
  ·have h := StrLaws.occ_length_le x y 0 x.length (x.length + 1)
   unfold Builtin.Str.partsBetween
   simp only [List.length_map, List.length_zip, List.length_cons, List.length_append, List.length_nil]
   omega
theorem vals_strs : ∀ (n : Nat) (l : List Str), Vals (l.map V.str) (strsFrom n l)
 | _, [] => .nil
 | n, x :: l => .cons ⟨n, rfl⟩ (vals_strs (n + 1) l)
section
variable {X : Cx}
def rSplit : V → List V → Hp → VK → Prop := fun x vs H Q => ∃ t y, x = .str t ∧ vs = [.str y] ∧ (y.length == 0) = false ∧ t.length + 2 ≤ sizeLine ∧ ∀ l, H l = none → Q (.ref l) (upd H l (.lst ((splitF t y).map V.str)))
theorem mt_split : MtM X "str.split" rSplit := by
 intro pins s σ H x vs v us Q I rx rv h
 obtain ⟨t, y, rfl, rfl, hy, hz, q⟩ := h
 obtain ⟨t1, rfl⟩ := rx
 obtain ⟨u, rfl, t2, rfl⟩ := rv.one
 have hl := splitF_len t y
 have q' := q _ I.fresh
 have hv := fun n => vals_strs n (splitF t y)
 unfold splitF at hl q' hv
 split at hl
 ·rename_i c
  rw [if_pos c] at q' hv
  refine call_meets F.slot_str_split rfl F.entry_str_split (F.args_str_split_2 _ _) (meets_str_split_cannot_occur t y t1 t2 c) ?_
  exact ⟨.ref _, _, I.lnew (t' := s.toks) (ys := [V.str t]) (its := [.str t t1]) (.cons ⟨t1, rfl⟩ .nil) (by show 1 ≤ sizeLine; decide), rfl, q'⟩
 ·rename_i c
  rw [if_neg c] at q' hv
  have c' := Bool.eq_false_iff.mpr c
  split at hl
  ·rename_i d
   rw [if_pos d] at q' hv
   refine call_meets F.slot_str_split rfl F.entry_str_split (F.args_str_split_2 _ _) (meets_str_split_not_found t y t1 t2 c' hy d) ?_
   exact ⟨.ref _, _, I.lnew (t' := s.toks) (ys := [V.str t]) (its := [.str t t1]) (.cons ⟨t1, rfl⟩ .nil) (by show 1 ≤ sizeLine; decide), rfl, q'⟩
  ·rename_i d
   rw [if_neg d] at q' hv
   refine call_meets F.slot_str_split rfl F.entry_str_split (F.args_str_split_2 _ _) (meets_str_split_sep t y t1 t2 c' hy (Bool.eq_false_iff.mpr d) (by omega) (by omega)) ?_
   exact ⟨.ref _, _, I.lnew (t' := _) (hv s.toks) (by rw [List.length_map]; omega), rfl, q'⟩
def joinF (sep : Str) : List Str → Str
 | [x] => x
 | l => Builtin.Str.glued sep l
theorem strs_of : ∀ {ss : List Str} {its : List Value}, Vals (ss.map V.str) its → ∃ l : List (Str × Tok), its = strValues l ∧ l.map (·.1) = ss
 | [], its, r => by cases r; exact ⟨[], rfl, rfl⟩
 | x :: ss, its, r => by
  cases r with
  | cons r1 r2 =>
   obtain ⟨t, rfl⟩ := r1
   obtain ⟨l, rfl, rfl⟩ := strs_of r2
   exact ⟨(x, t) :: l, rfl, rfl⟩
def rJoin : V → List V → Hp → VK → Prop := fun x vs H Q => ∃ sep l ss, x = .str sep ∧ vs = [.ref l] ∧ H l = some (.lst (List.map V.str ss)) ∧ Builtin.Str.tooLong (ss.toArray.foldl (· + ·.length + sep.length) 0) = false ∧ (joinF sep ss).length ≤ sizeLine ∧ Q (.str (joinF sep ss)) H
theorem mt_join : MtM X "str.join" rJoin := by
 intro pins s σ H x vs v us Q I rx rv h
 obtain ⟨sep, l, ss, rfl, rfl, hH, hl, hz, q⟩ := h
 obtain ⟨t1, rfl⟩ := rx
 obtain ⟨u, rfl, ru⟩ := rv.one
 cases ru
 obtain ⟨its, r, p1, _⟩ := I.list (SqL.of hH)
 obtain ⟨ps, rfl, rfl⟩ := strs_of r
 refine call_meets F.slot_str_join rfl F.entry_str_join (F.args_str_join_2 _ _) (meets_str_join_list sep t1 l ps hl) ⟨p1.isList, ?_⟩
 match ps, hz, q with
 | [], hz, q => exact ⟨hz, .str _, H, I.tok _, ⟨_, rfl⟩, q⟩
 | [p], hz, q => exact ⟨.str _, H, I, ⟨_, rfl⟩, q⟩
 | a :: b :: r, hz, q => exact ⟨hz, .str _, H, I.tok _, ⟨_, rfl⟩, q⟩
def pickS (x : Str) (lo hi : Option Int) : List Nat := slicePicked x (lo.map fun i => (i, 0)) (hi.map fun i => (i, 0)) none
def sliceS (x : Str) (lo hi : Option Int) : Str := if ((pickS x lo hi).length == x.length) = true then x else ⟨((pickS x lo hi).filterMap (x.cps[·]?)).toArray⟩
theorem part_of {v : Value} {lo : Option Int} (h : IsPart v lo) : ∃ l : Option (Int × Tok), v = partValue l ∧ l.map (·.1) = lo := by
 cases h with
 | none => exact ⟨none, rfl, rfl⟩
 | int i t => exact ⟨some (i, t), rfl, rfl⟩
def rSlS : V → Option Int → Option Int → Hp → VK → Prop := fun x lo hi H Q => ∃ t, x = .str t ∧ t.length ≤ sizeLine ∧ (sliceS t lo hi).length ≤ t.length ∧ Q (.str (sliceS t lo hi)) H
theorem s_str : SlR X rSlS := by
 intro pins s σ H x v vl vu lo hi sl Q I rx hs pl pu h
 obtain ⟨t, rfl, hz, hz2, q⟩ := h
 obtain ⟨t1, rfl⟩ := rx
 obtain ⟨l, rfl, rfl⟩ := part_of pl
 obtain ⟨u, rfl, rfl⟩ := part_of pu
 refine ⟨"str", _, F.slot_str_getitem.lookup, rfl, wpAny_getItem_str_slice (l := l) (u := u) (st := none) hs rfl ?_⟩
 have e : slicePicked t l u none = pickS t (l.map (·.1)) (u.map (·.1)) := by
  unfold pickS slicePicked
  cases l <;> cases u <;> rfl
 unfold sliceMade
 unfold sliceS at hz2 q
 rw [e]
 by_cases c : ((pickS t (l.map (·.1)) (u.map (·.1))).length == t.length) = true
 ·rw [if_pos c] at q hz2
  rw [if_pos (by show (true && _) = true; rw [c]; rfl)]
  exact ⟨.str _, H, I, ⟨_, rfl⟩, q⟩
 ·rw [if_neg c] at q hz2
  rw [if_neg (by show ¬ (true && _) = true; rw [Bool.true_and]; exact c)]
  exact ⟨Nat.le_trans hz2 hz, .str _, H, I.tok _, ⟨_, rfl⟩, q⟩
theorem sliceS_len (x : Str) (lo hi : Option Int) : (sliceS x lo hi).length ≤ x.length := by
 unfold sliceS
 split
 ·exact Nat.le_refl _
 ·have h : (pickS x lo hi).length ≤ x.length := by
   unfold pickS slicePicked
   exact indices_len_le _ _ _
  exact Nat.le_trans (show ((pickS x lo hi).filterMap (x.cps[·]?)).toArray.size ≤ (pickS x lo hi).length by rw [List.size_toArray]; exact List.length_filterMap_le _ _) h
theorem call_intS : CallR X (.type "int") (fun xs H Q => ∃ n : Int, xs = [.str (Str.ofString (toString n))] ∧ 0 ≤ n ∧ n < 10 ^ 10 ∧ Q (.int n) H) := by
 intro pins s σ H xs us Q I r h
 obtain ⟨n, rfl, h0, h1, q⟩ := h
 obtain ⟨u, rfl, t, rfl⟩ := vals1 r
 exact PySem.W.KIN.call_num h0 h1 ⟨.int n, H, I.tok _, ⟨_, rfl⟩, q⟩
end
end L2

end

section
namespace MF
open PySem PySem.Spec PyProof.Rows L2
abbrev Lt (d : PyData) : List Nat := d.shown.cps.toList
def tail (c : Nat) : List PyData → List Nat
 | [] => [c]
 | d :: ds => 44 :: 32 :: (Lt d ++ tail c ds)
end MF

end

section
namespace L2
open PySem PySem.Spec PyProof.Rows
section
variable {X : Cx}
theorem o_neL0 (hu : X.A.units < cLine) : OpR X (compareOp .NotEq) (fun x y H Q => ∃ (a b : Addr) (xs : List V), x = .ref a ∧ y = .ref b ∧ H a = some (.lst xs) ∧ H b = some (.lst []) ∧ Q (.bl (!xs.isEmpty)) H) := by
 intro pins s σ H x y v u Q I rx ry h
 obtain ⟨a, b, xs, rfl, rfl, ha, hb, q⟩ := h
 cases rx; cases ry
 obtain ⟨its, r1, p1, _⟩ := I.list (SqL.of ha)
 obtain ⟨its2, r2, p2, _⟩ := I.list (SqL.of hb)
 cases r2
 cases r1 with
 | nil => exact SeqAt.RcNeAt.lists (e := fun _ => true) p1.isList p2.isList (by simp) hu (fun j h1 h2 => absurd h1 (by simp)) _ _ _ _ (fin_bl I q (by rfl))
 | cons r t => exact SeqAt.RcNeAt.lists_lengths p1.isList p2.isList (by simp) hu _ _ _ _ (fin_bl I q (by rfl))
end
end L2
namespace MF
open PySem PySem.Spec PyProof.Rows L2
end MF
namespace L2
open PySem PySem.Spec PyProof.Rows
section
variable {X : Cx}
theorem pick_rev (xs : List Value) : slicePick xs.toArray none none (some (-1)) = xs.reverse.toArray := by
 rw [← rev_pick]
 unfold slicePick
 have e : sliceRange (sliceBounds none none (some (-1)) xs.toArray.size).fst (sliceBounds none none (some (-1)) xs.toArray.size).snd.fst (sliceBounds none none (some (-1)) xs.toArray.size).snd.snd = (List.range xs.length).map fun (k : Nat) => (((xs.length : Int) - 1) + (k : Int) * (-1)).toNat := by
  have b : sliceBounds none none (some (-1)) xs.toArray.size = ((xs.length : Int) - 1, -1, -1) := by
   rw [List.size_toArray]
   rfl
  rw [b]
  unfold sliceRange
  dsimp only
  rw [if_neg (by decide)]
  have c : (if (xs.length : Int) - 1 > -1 then ((xs.length : Int) - 1 - -1 - -1 - 1) / - -1 else 0) = (xs.length : Int) := by
   split
   ·rw [show (- -1 : Int) = 1 from rfl, Int.ediv_one]; omega
   ·omega
  rw [c]
  apply List.map_congr_left
  intro k _
  congr 1
  omega
 rw [e, List.filterMap_map]
 rfl
def cRevL (te : TE) : TE := fun σ H Q => te σ H fun x H1 => ∃ a xs, x = .ref a ∧ H1 a = some (.lst xs) ∧ ∀ l, H1 l = none → Q (.ref l) (upd H1 l (.lst xs.reverse))
theorem c_revL {e st : Expr} {te : TE} {p2 pos : Pos} (he : PE X e te) (hst : PE X st (tC (.int (-1)))) : PE X (.Subscript e (.Slice none none (some st) p2) pos) (cRevL te) := by
 intro pins s σ H Q I h
 refine Subscript_ (thn (he pins s σ H _ I h) fun v s1 ⟨x, H1, I1, r1, a, xs, ex, ha, q⟩ => ?_)
 subst ex
 cases r1
 refine wpAny_Slice ?_
 rw [evalPart_none]
 refine wpAny_pure (wpAny_pure ?_)
 rw [evalPart_some]
 refine thn (hst pins s1 σ H1 (fun v H' => v = .int (-1) ∧ H' = H1) I1 ⟨rfl, rfl⟩) fun u s3 ⟨y, H3, I3, r3, ey, eH⟩ => ?_
 subst ey eH
 obtain ⟨t, rfl⟩ := r3
 have I4 : Inv X pins σ H3 { s3 with heap := s3.heap.push { cls := .type "slice", data := .fields #[.none, .none, .int (-1) t] } } := I3.kept (t' := s3.toks) fun b ob q => Heap.get?_push_of_some _ q
 generalize hs4 : ({ s3 with heap := s3.heap.push { cls := .type "slice", data := .fields #[.none, .none, .int (-1) t] } } : Shared) = s4 at I4
 have hsl : s4.heap.IsSliceOf s3.heap.objs.size .none .none (.int (-1) t) := by rw [← hs4]; exact Heap.IsSliceOf.new ..
 obtain ⟨its, r, ht, hz⟩ := I4.list (SqL.of ha)
 have hlen := r.length
 show wpAny (model X.prog X.w) X.A (subscriptTail e (.Slice none none (some st) p2) (.ref a) (.ref s3.heap.objs.size)) (EP X pins σ Q) X.xe s4
 refine tail_any (ops := [.ref a, .ref s3.heap.objs.size]) ht.isList.typeIs slot_list_getitem.lookup ?_ (by with_unfolding_all rfl)
 refine wpAny_getItem_list_slice ht.isList hsl .none .none (.int _ _) (by simp) ?_ (by rw [List.size_toArray] <;> omega)
 rw [pick_rev]
 refine ⟨.ref s4.heap.objs.size, _, I4.laid (t' := s4.toks) (o := .lst xs.reverse) (fun b ob q => Heap.get?_push_of_some _ q) (Nat.le_refl _) ?_, rfl, q _ (I4.hok.fresh (Nat.le_refl _))⟩
 exact ⟨by rw [List.length_reverse]; exact hz, _, 0, r.reverse, Heap.get?_push_size _ rfl⟩
end
end L2

end

section
namespace L2
open PySem PySem.Spec PyProof.Rows
section
variable {X : Cx}
end
end L2
namespace MF
open PySem PySem.Spec PyProof.Rows L2
structure TM where
 cs : List (List Int)
 co : List Int
 ds : List Int
 lo : Int
 hi : Int
 st : Int
structure TM.ok (T : TM) : Prop where
 l8 : T.ds.length ≤ 8
 lc : T.cs.length = T.ds.length
def part {α : Type} (xs : List α) (f l : Nat) : List α := (xs.drop f).take (l + 1 - f)
def most (T : TM) (f l : Nat) : Int := ((part T.cs f l).map List.sum).sum
end MF

end

section
namespace L2
open PySem PySem.Spec PyProof.Rows
section
variable {X : Cx} {pos : Pos}
end
end L2

end

section
namespace L2
open PySem PySem.Spec PyProof.Rows
section
variable {X : Cx}
end
end L2

end

section
namespace L2
open PySem PySem.Spec PyProof.Rows
section
variable {X : Cx}
end
end L2

end

section
namespace L2
open PySem PySem.Spec PyProof.Rows
section
variable {X : Cx}
end
end L2

end

section
namespace L2
open PySem PySem.Spec PyProof.Rows
open AutoSeq1 (wpAny_loadPart')
structure ZA3 (z TI TO i1 i2 i3 l1 l2 l3 : Addr) : Prop where
 TI_z : TI ≠ z
 TO_z : TO ≠ z
 TO_TI : TO ≠ TI
 i1_z : i1 ≠ z
 i1_TI : i1 ≠ TI
 i1_TO : i1 ≠ TO
 i2_z : i2 ≠ z
 i2_TI : i2 ≠ TI
 i2_TO : i2 ≠ TO
 i2_i1 : i2 ≠ i1
 i3_z : i3 ≠ z
 i3_TI : i3 ≠ TI
 i3_TO : i3 ≠ TO
 i3_i1 : i3 ≠ i1
 i3_i2 : i3 ≠ i2
 l1_z : l1 ≠ z
 l1_TO : l1 ≠ TO
 l1_i1 : l1 ≠ i1
 l1_i2 : l1 ≠ i2
 l1_i3 : l1 ≠ i3
 l2_z : l2 ≠ z
 l2_TO : l2 ≠ TO
 l2_i1 : l2 ≠ i1
 l2_i2 : l2 ≠ i2
 l2_i3 : l2 ≠ i3
 l3_z : l3 ≠ z
 l3_TO : l3 ≠ TO
 l3_i1 : l3 ≠ i1
 l3_i2 : l3 ≠ i2
 l3_i3 : l3 ≠ i3
section
variable {P : Program} {w : World} {K : PySem.W.Frag} {A : Around} {E : Value → Shared → Prop} {s : Shared} (S1 S2 S3 : SeqK P w K)
end
end L2

end

section
namespace L2
open PySem PySem.Spec PyProof.Rows
open AutoSeq1 (wpAny_loadPart')
def KpBut (a : Addr) (g g' : Heap) : Prop := ∀ b o, b ≠ a → g.get? b = some o → g'.get? b = some o
end L2

end

section
namespace L2
open PySem PySem.Spec PyProof.Rows
section
variable {X : Cx}
end
end L2

end

section
namespace L2
open PySem PySem.Spec PyProof.Rows
section
variable {X : Cx}
end
end L2

end

section
namespace L2
open PySem PySem.Spec PyProof.Rows
section
variable {prog : Program} {w : World} {A : Around} {R : Result → Shared → Prop} {s : Shared} {elt tg1 it1 tg2 it2 tg3 it3 : Expr} {ifs1 ifs2 ifs3 : List Expr} {scope : Scope} {pos : Pos} {it acc : Value} {env : Env}
end
def tIn3 (wi2 : TI) (g2 : TG) (tt2 : TT) (wi3 : TI) (g3 : TG) (tt3 : TT) (te : TE) : St → List V → Hp → (List V → Hp → Prop) → Prop := fun σ ys H N => wi2 σ H fun J H1 =>
 ∃ W : Nat → Nat → List V → Hp → Prop, (∃ m, W 0 m ys H1) ∧ ∀ j m zs H, W j m zs H →
  (J.stop j H ∧ N zs H) ∨
  (J.go j H ∧ ∃ N2 : List V → Hp → Prop, (∀ zs' H', N2 zs' H' → ∃ m', m' < m ∧ W (j + 1) m' zs' H') ∧ ∀ x H', J.yld j H x H' → g2 x σ H' fun σ3 H2 => Keep σ σ3 ∧ tt2 σ3 H2 fun b H3 =>
   br b (tIn2 wi3 g3 tt3 te σ3 zs H3 N2) (N2 zs H3))
end L2

end

section
namespace L2
open PySem PySem.Spec PyProof.Rows
section
variable {X : Cx}
end
theorem pe_bmK (K : PySem.W.Frag) {o e : Expr} {es : List Expr} {to : TE} {t : TA} {name : Str} {apos cpos : Pos} {T id : String} {r : V → List V → Hp → VK → Prop} {X : Cx} (pa : PlainAttrs T) (slot : Slot T name id) (hty : typeOf (.builtin id) = pure (.type "method_descriptor")) (hm : MtR X id r) (ho : PE X o to) (ha : PA X (e :: es) t) (hK : X.K = K := by rfl)
  (hbase : attributeBase o name X.env (eval o X.env) = eval o X.env := by rfl)
  (hfew : ((backTo cpos (starEach (e :: es) X.env)).all (fun x => !x.1) && (backToKw cpos (keywordEach [] X.env)).all (fun x => x.1.isSome)
   && decide ((e :: es).length + ([] : List Keyword).length + (if ([] : List Keyword).isEmpty then 0 else 1) < 30)) = true := by rfl)
  (hline : (apos.endLine == cpos.line) = true := by rfl) (hs : starEach (e :: es) X.env = (false, eval e X.env) :: starEach es X.env := by rfl) (hplain : (backTo cpos (starEach es X.env)).any (·.1) = false := by rfl) :
  PE X (.Call (.Attribute o name apos) (e :: es) [] cpos) (tBM K T r to t) := hK ▸ pe_bm pa slot hty hm ho ha hbase hfew hline hs hplain
def WalkO (J : It) (cap : List (Option Nat)) (g : TG) (tt : TT) (wi2 : TI) (g2 : TG) (tt2 : TT) (wi3 : TI) (g3 : TG) (tt3 : TT) (te : TE) (σ : St) (Q : List V → Hp → Prop) (H1 : Hp) : Prop :=
 ∃ W : Nat → Nat → List V → Hp → Prop, (∃ m, W 0 m [] H1) ∧ ∀ i m ys H, W i m ys H →
  (J.stop i H ∧ Q ys H) ∨
  (J.go i H ∧ ∃ N : List V → Hp → Prop, (∀ ys' H', N ys' H' → ∃ m', m' < m ∧ W (i + 1) m' ys' H') ∧ ∀ x H', J.yld i H x H' → g x (capOf cap σ) H' fun σ2 H2 => Keep (capOf cap σ) σ2 ∧ tt σ2 H2 fun b H3 =>
   br b (tIn3 wi2 g2 tt2 wi3 g3 tt3 te σ2 ys H3 N) (N ys H3))
end L2

end

section
namespace L2
open PySem PySem.Spec PyProof.Rows
section
variable {X : Cx}
end
end L2
namespace MF
open PySem PySem.Spec PyProof.Rows L2
end MF

end

section
namespace L2
open PySem PySem.Spec PyProof.Rows
section
variable {X : Cx}
theorem _root_.PySem.Paired.split {xs ys : List V} {us : List Value} (h : Vals (xs ++ ys) us) : Vals xs (us.take xs.length) ∧ Vals ys (us.drop xs.length) := by
 induction xs generalizing us with
 | nil => exact ⟨.nil, h⟩
 | cons x xs ih =>
  rcases h with _ | ⟨r, t⟩
  obtain ⟨a, b⟩ := ih t
  exact ⟨.cons r a, b⟩
end
end L2

end

section
namespace L2
open PySem PySem.Spec PyProof.Rows
open AutoSeq1 (wpAny_loadPart')
section
variable {P : Program} {w : World} {K : PySem.W.Frag} {A : Around} {E : Value → Shared → Prop} {s : Shared} (S1 S2 : SeqK P w K)
end
end L2

end

section
namespace L2
open PySem PySem.Spec PyProof.Rows
section
variable {X : Cx}
section
open HT
variable {prog : Program} {w : World} {A : Around} {E : Value → Shared → Prop} {s : Shared}
end
end
end L2

end

section
namespace L2
open PySem PySem.Spec PyProof.Rows
def KD (h h' : Heap) : Prop := ∀ (b : Addr) (o : Obj), h.objs[b]? = some o → ∃ o' : Obj, h'.objs[b]? = some o' ∧ o'.dict = o.dict
theorem KD.refl (h : Heap) : KD h h := fun _ o e => ⟨o, e, rfl⟩
theorem KD.trans {a b c : Heap} (x : KD a b) (y : KD b c) : KD a c := fun i o e => by
 obtain ⟨o1, e1, d1⟩ := x i o e
 obtain ⟨o2, e2, d2⟩ := y i o1 e1
 exact ⟨o2, e2, d2.trans d1⟩
theorem get_raw {h : Heap} {b : Addr} {o : Obj} (e : h.get? b = some o) : h.objs[b]? = some o := by
 unfold Heap.get? at e
 split at e
 ·cases e
 ·exact e
theorem KD.get {h h' : Heap} {b : Addr} {o o' : Obj} (k : KD h h') (e : h.get? b = some o) (e' : h'.get? b = some o') : o'.dict = o.dict := by
 obtain ⟨o2, e2, d⟩ := k b o (get_raw e)
 rw [get_raw e'] at e2
 cases e2
 exact d
theorem KD.push (h : Heap) (o : Obj) : KD h (h.push o) := fun b u e => ⟨u, by
 have hb := (Array.getElem?_eq_some_iff.mp e).1
 show (h.objs.push o)[b]? = some u
 rw [Array.getElem?_push_lt hb, ← e, Array.getElem?_eq_getElem hb], rfl⟩
theorem KD.update (h : Heap) (a : Addr) {f : Obj → Obj} (hf : ∀ o, (f o).dict = o.dict) : KD h (h.update a f) := fun b u e => by
 by_cases z : a = b
 ·exact ⟨f u, by show (h.objs.modify a f)[b]? = _; rw [Array.getElem?_modify, if_pos z, e]; rfl, hf u⟩
 ·exact ⟨u, by show (h.objs.modify a f)[b]? = _; rw [Array.getElem?_modify, if_neg z, e], rfl⟩
inductive Tame {α : Type} : Sem α → Prop
 | pure (a : α) : Tame (.pure a)
 | raise (e : Value) : Tame (.raise e)
 | uns (w : String) : Tame (.unsupported w)
 | rule {t : String} {k : Unit → Sem α} (h : ∀ x, Tame (k x)) : Tame (.rule t k)
 | load {a : Addr} {p : Option Value} {k : Obj → Sem α} (h : ∀ x, Tame (k x)) : Tame (.load a p k)
 | update {a : Addr} {p : Option Value} {f : Obj → Obj} {k : Unit → Sem α} (hf : ∀ o, (f o).dict = o.dict) (h : ∀ x, Tame (k x)) : Tame (.update a p f k)
 | alloc {o : Obj} {k : Addr → Sem α} (h : ∀ x, Tame (k x)) : Tame (.alloc o k)
 | stack {k : List (Code × Pos) → Sem α} (h : ∀ x, Tame (k x)) : Tame (.stack k)
theorem Tame.bind {α β : Type} {m : Sem α} {f : α → Sem β} (h : Tame m) (g : ∀ a, Tame (f a)) : Tame (m >>= f) := by
 induction h with
 | pure a => exact g a
 | raise e => exact .raise e
 | uns w => exact .uns w
 | rule _ ih => exact .rule ih
 | load _ ih => exact .load ih
 | update hf _ ih => exact .update hf ih
 | alloc _ ih => exact .alloc ih
 | stack _ ih => exact .stack ih
theorem Tame.ite {α : Type} {c : Prop} [Decidable c] {a b : Sem α} (x : Tame a) (y : Tame b) : Tame (if c then a else b) := by
 split
 ·exact x
 ·exact y
theorem Tame.wp {α : Type} {M : Model} {Γ : PySem.Ctx} {t : Sem α} {Q : α → Pos → Shared → Prop} {E : Value → Pos → Shared → Prop} (T : Tame t) {p : Pos} {s : Shared} {h0 : Heap} (k0 : KD h0 s.heap) (h : Sem.wp M Γ t Q E p s) :
  Sem.wp M Γ t (fun a p' s' => Q a p' s' ∧ KD h0 s'.heap) E p s := by
 induction T generalizing p s with
 | pure a => rw [Sem.wp] at h ⊢; exact ⟨h, k0⟩
 | raise e => rw [Sem.wp] at h ⊢; exact h
 | uns w => rw [Sem.wp] at h; exact h.elim
 | rule _ ih => rw [Sem.wp] at h ⊢; exact ih _ k0 h
 | load _ ih => rw [Sem.wp] at h ⊢; obtain ⟨o, e, h⟩ := h; exact ⟨o, e, ih _ k0 h⟩
 | update hf _ ih => rw [Sem.wp] at h ⊢; exact ⟨h.1, ih _ (k0.trans (KD.update _ _ hf)) h.2⟩
 | alloc _ ih => rw [Sem.wp] at h ⊢; exact ih _ (k0.trans (KD.push _ _)) h
 | stack _ ih => rw [Sem.wp] at h ⊢; exact ih _ k0 h
theorem Tame.any {α : Type} {M : Model} {A : Around} {t : Sem α} {Q : α → Shared → Prop} {E : Value → Shared → Prop} (T : Tame t) {s : Shared} (h : wpAny M A t Q E s) : wpAny M A t (fun a s' => Q a s' ∧ KD s.heap s'.heap) E s :=
 fun Γ p hΓ => T.wp (KD.refl _) (h Γ p hΓ)
theorem tame_load (a : Addr) : Tame (load a) := .load fun _ => .pure _
theorem tame_fieldsOf (v : Value) : Tame (fieldsOf v) := by
 unfold fieldsOf
 split
 ·refine (tame_load _).bind fun o => ?_
  split
  ·exact .pure _
  ·exact .uns _
 ·exact .uns _
theorem tame_field (v : Value) (i : Nat) : Tame (field v i) := by
 unfold field
 refine (tame_fieldsOf v).bind fun o => ?_
 split
 ·exact .pure _
 ·exact .uns _
theorem dict_mapFields (o : Obj) (f : Array Value → Array Value) : (Obj.mapFields f o).dict = o.dict := by
 unfold Obj.mapFields
 split <;> rfl
theorem tame_setField (v : Value) (i : Nat) (x : Value) : Tame (setField v i x) := by
 unfold setField
 split
 ·unfold updateField
  refine (tame_load _).bind fun o => ?_
  split
  ·exact .ite (.update (fun o => dict_mapFields o _) fun _ => .pure _) (.uns _)
  ·exact .uns _
 ·exact .uns _
theorem tame_setFlight (e : Value) (f : Option Addr) : Tame (setFlight e f) := by
 unfold setFlight
 refine (tame_field _ _).bind fun o => ?_
 exact .ite (tame_setField _ _ _) (.pure _)
theorem tame_readyFrames : ∀ l, Tame (readyFrames l)
 | [] => .pure _
 | env :: outer => by
  unfold readyFrames
  split
  ·refine (tame_load _).bind fun o => ?_
   refine .ite (.pure _) ?_
   refine Tame.bind ?_ fun b => Tame.bind ?_ fun v => Tame.bind (.update (fun _ => rfl) fun _ => .pure _) fun _ => tame_readyFrames outer
   ·unfold behindIsImport
    refine .ite (.pure _) (.ite (.pure _) ((tame_field _ _).bind fun _ => .pure _))
   ·unfold keptBack
    split
    ·refine .ite (.pure _) ?_
     unfold underTheClaimsCaller
     exact Tame.bind (Tame.bind (.stack fun _ => .pure _) fun _ => .pure _) fun _ => .pure _
    ·exact .pure _
  ·exact .uns _
theorem tame_frameOf (env : Env) : Tame (PySem.frameOf env) := by
 unfold PySem.frameOf frameEnvs
 refine Tame.bind (Tame.bind (.stack fun _ => .pure _) fun _ => .pure _) fun l => ?_
 refine Tame.bind ?_ fun o => ?_
 ·unfold frameObject
  split
  ·exact .pure _
  ·exact (tame_readyFrames _).bind fun _ => .pure _
 ·split
  ·exact .pure _
  ·exact .uns _
theorem tame_entryPlaceOf (f : Addr) (b : Bool) : Tame (entryPlaceOf f b) := by
 unfold entryPlaceOf
 refine Tame.bind (.stack fun _ => .pure _) fun l => ?_
 split
 ·exact .pure _
 ·exact .pure _
theorem tame_newEntry (a b c d e : Value) (l : List Value) : Tame (EntryCells.newEntry a b c d e l) := by
 unfold EntryCells.newEntry newFields newObj
 dsimp only
 refine .ite (.uns _) ?_
 unfold newObjAsIs
 exact Tame.bind (.alloc fun _ => .pure _) fun _ => .pure _
theorem tame_noteFrame (e : Value) (env : Env) : Tame (noteFrame e env) := by
 unfold noteFrame
 split
 ·refine (tame_field _ _).bind fun o => ?_
  refine .ite ((tame_field _ _).bind fun o => .ite (.pure _) ((tame_setField _ _ _).bind fun _ => ?_)) ?_
  all_goals exact (tame_frameOf _).bind fun _ => (tame_entryPlaceOf _ _).bind fun _ => (tame_newEntry _ _ _ _ _ _).bind fun _ => tame_setField _ _ _
 ·exact .uns _
theorem tame_leaving (env : Env) (e : Value) : Tame (leaving env e) := (tame_noteFrame e env).bind fun _ => tame_setFlight e none
end L2

end

section
namespace L2
open PySem PySem.Spec PyProof.Rows
theorem ObjOk.there {P : Program} {w : World} {H : Hp} {h : Heap} {a : Addr} {o : HO} (x : ObjOk P w H h a o) : ∃ u, h.get? a = some u := by
 cases o with
 | lst xs => obtain ⟨_, _, _, _, e⟩ := x; exact ⟨_, e⟩
 | tup xs => obtain ⟨_, _, _, o, e, _⟩ := x; exact ⟨_, e⟩
 | dK kvs => obtain ⟨_, _, _, _, o, _, _, e, _⟩ := x; exact ⟨_, e⟩
 | dT kvs => obtain ⟨_, _, _, _, o, _, _, e, _⟩ := x; exact ⟨_, e⟩
 | set S n => obtain ⟨o, _, _, _, e, _⟩ := x; exact ⟨_, e⟩
 | ins C dx fs => obtain ⟨_, _, _, e, _⟩ := x; exact ⟨_, e⟩
 | own y => obtain ⟨_, e⟩ := x; exact ⟨_, e⟩
 | xd fs => obtain ⟨_, ⟨_, _, _, e, _⟩, _⟩ := x; exact ⟨_, e⟩
 | rng lo hi => obtain ⟨_, _, _, e⟩ := x; exact ⟨_, e⟩
 | frz ob u => obtain ⟨e, _⟩ := x; exact ⟨_, e⟩
 | tbl ps => exact ⟨_, x⟩
 | met f y => exact ⟨_, x⟩
 | ext φ => obtain ⟨_, ⟨_, e⟩, _⟩ := x; exact ⟨_, e⟩
structure XAt (P : Program) (w : World) (outer : List Env) (H : Hp) (s : Shared) (H' : Hp) (C e : Addr) (s' : Shared) : Prop where
 os : s'.os = s.os
 bare : AllBare s'.gens
 un : Un (frs outer) [] H H' s.heap s'.heap
 fly : ∃ B t, Heap.FlyingW B outer e (.ref C) t s'.heap ∧ (∀ b o, s.heap.get? b = some o → H b = none → b ∉ frs outer → B.get? b = some o) ∧
  (∀ b o, s.heap.get? b = some o → b ∉ frs outer → ∃ o', B.get? b = some o') ∧ HOk P w H' B
def CXE (P : Program) (w : World) : CXT := fun outer H s E v s' => ∃ C e H' dx, v = .ref e ∧ XAt P w outer H s H' C e s' ∧ (∃ oe : Obj, s'.heap.get? e = some oe ∧ oe.dict = dx) ∧ E (.ref C) dx H'
structure IsDef (X : Cx) (E : XK) : Prop where
 stk : X.stack = X.env :: X.outer
 fr : X.env.frame = some X.env.locals
 ex : X.ex = []
 xe : ∀ e s', wpAny (model X.prog X.w) X.A (leaving X.env e) (fun _ s'' => CXE X.prog X.w X.outer X.H₀ X.s₀ E e s'') (fun _ _ => False) s' → X.xe e s'
section
variable {X : Cx} {pins : List (Addr × Obj)} {σ : St} {H H' : Hp} {s s' : Shared} {C e : Addr} {E : XK}
theorem frs_cons {env : Env} {l : List Env} {b L : Addr} (hf : env.frame = some L) (h : b ∈ frs (env :: l)) : b = L ∨ b ∈ frs l := by
 unfold frs at h ⊢
 obtain ⟨x, hx, hb⟩ := List.mem_filterMap.mp h
 rcases List.mem_cons.mp hx with rfl | hx
 ·rw [hf] at hb; exact .inl (Option.some.inj hb).symm
 ·exact .inr (List.mem_filterMap.mpr ⟨x, hx, hb⟩)
theorem IsDef.un0 (D : IsDef X E) (I : Inv X pins σ H s) (u : Un (frs X.stack) [] H H' s.heap s'.heap) {B h' : Heap} (up : s'.heap.UpToSlots h') (ff : s'.heap.FunFrames B X.stack) (st : B.StaysIn h')
  (kB' : ∀ b o, X.s₀.heap.get? b = some o → X.H₀ b = none → b ∉ frs X.outer → B.get? b = some o) (tB' : ∀ b o, X.s₀.heap.get? b = some o → b ∉ frs X.outer → ∃ o', B.get? b = some o') :
  Un (frs X.outer) [] X.H₀ H' X.s₀.heap h' := by
 have nx : ∀ b, b ∉ X.ex := fun b z => by rw [D.ex] at z; cases z
 have frn : ∀ b, b ∈ frs X.outer → ∀ o, s'.heap.get? b = some o → ∀ vs, o.data ≠ .fields vs := fun b hb o eo => by
  have hb' : b ∈ (X.env :: X.outer).filterMap (·.frame) := by
   obtain ⟨x, hx, hf⟩ := List.mem_filterMap.mp hb
   exact List.mem_filterMap.mpr ⟨x, .tail _ hx, hf⟩
  rw [D.stk] at ff
  obtain ⟨_, o', ho', hd⟩ := ff.mem hb'
  rw [eo] at ho'
  cases ho'
  exact hd
 have sub : ∀ b, b ∈ frs X.outer → b ∈ frs X.stack := fun b hb => by
  rw [D.stk]
  obtain ⟨x, hx, hf⟩ := List.mem_filterMap.mp hb
  exact List.mem_filterMap.mpr ⟨x, .tail _ hx, hf⟩
 refine ⟨fun b o e n hb _ => st b o (kB' b o e n hb), fun b o e n hb _ => ?_, fun b o e n _ => ?_, fun b o e _ => ?_, fun b xs q => u.tups b xs (I.base.tups b xs q), fun b o' xs q => u.frzs b o' xs (I.base.frzs b o' xs q), fun b ps q => ?_⟩
 ·obtain ⟨s1, e1⟩ := I.base.slot b o e n hb (nx b)
  obtain ⟨s2, e2⟩ := u.slot b _ e1 (I.base.free b o e n (nx b)) (sub b hb) (by simp)
  obtain ⟨s3, e3⟩ := up b _ e2 (frn b hb _ e2)
  exact ⟨s3, e3⟩
 ·obtain ⟨o1, e1⟩ := I.base.there b o e (nx b)
  exact u.free b o1 e1 (I.base.free b o e n (nx b)) (by simp)
 ·by_cases hb : b ∈ frs X.outer
  ·obtain ⟨o1, e1⟩ := I.base.there b o e (nx b)
   obtain ⟨o2, e2⟩ := u.there b o1 e1 (by simp)
   obtain ⟨s3, e3⟩ := up b _ e2 (frn b hb _ e2)
   exact ⟨_, e3⟩
  ·obtain ⟨o1, e1⟩ := tB' b o e hb
   exact ⟨o1, st b o1 e1⟩
 ·obtain ⟨m1, e1⟩ := I.base.tbls b ps q
  obtain ⟨m2, e2⟩ := u.tbls b _ e1
  exact ⟨m1 ++ m2, by rw [e2, Array.append_assoc]⟩
theorem IsDef.above (D : IsDef X E) (I : Inv X pins σ H s) {b : Addr} {o : Obj} (e : X.s₀.heap.get? b = some o) (n : b ∉ frs X.outer) : b ∉ frs X.stack := fun z => by
 rw [D.stk] at z
 rcases frs_cons D.fr z with q | q
 ·have := Heap.lt_size e
  rw [q] at this
  exact absurd (Nat.lt_of_lt_of_le this I.ok.above) (Nat.lt_irrefl _)
 ·exact n q
theorem IsDef.un (D : IsDef X E) (I : Inv X pins σ H s) (u : Un (frs X.stack) [] H H' s.heap s'.heap) {B h' : Heap} (up : s'.heap.UpToSlots h') (ff : s'.heap.FunFrames B X.stack) (st : B.StaysIn h')
  (kB : ∀ b o, s.heap.get? b = some o → H b = none → b ∉ frs X.stack → B.get? b = some o) (tB : ∀ b o, s.heap.get? b = some o → b ∉ frs X.stack → ∃ o', B.get? b = some o') :
  Un (frs X.outer) [] X.H₀ H' X.s₀.heap h' ∧ (∀ b o, X.s₀.heap.get? b = some o → X.H₀ b = none → b ∉ frs X.outer → B.get? b = some o) ∧
   (∀ b o, X.s₀.heap.get? b = some o → b ∉ frs X.outer → ∃ o', B.get? b = some o') := by
 have nl : ∀ b o, X.s₀.heap.get? b = some o → b ≠ X.env.locals := fun b o e z => by
  have := Heap.lt_size e
  rw [z] at this
  exact absurd (Nat.lt_of_lt_of_le this I.ok.above) (Nat.lt_irrefl _)
 have nx : ∀ b, b ∉ X.ex := fun b z => by rw [D.ex] at z; cases z
 have ns : ∀ b o, X.s₀.heap.get? b = some o → b ∉ frs X.outer → b ∉ frs X.stack := fun b o e n z => by
  rw [D.stk] at z
  rcases frs_cons D.fr z with q | q
  ·exact nl b o e q
  ·exact n q
 have kB' : ∀ b o, X.s₀.heap.get? b = some o → X.H₀ b = none → b ∉ frs X.outer → B.get? b = some o := fun b o e n hb =>
  kB b o (I.base.keep b o e n hb (nx b)) (I.base.free b o e n (nx b)) (ns b o e hb)
 have tB' : ∀ b o, X.s₀.heap.get? b = some o → b ∉ frs X.outer → ∃ o', B.get? b = some o' := fun b o e hb => by
  obtain ⟨o1, e1⟩ := I.base.there b o e (nx b)
  exact tB b o1 e1 (ns b o e hb)
 exact ⟨D.un0 I u up ff st kB' tB', kB', tB'⟩
theorem IsDef.passes (D : IsDef X E) : Passes (CXE X.prog X.w) X E := by
 intro pins σ H s v s' I ⟨C, e, H', dx, hv, x, ⟨oe, he, hdx⟩, q⟩
 subst hv
 refine D.xe _ _ ?_
 obtain ⟨B, t, fl, kB, tB, hB⟩ := x.fly
 have ff := fl.2.2.1
 have fl2 := fl
 rw [D.stk] at fl2
 have hfr : X.A.frames = some (X.env :: X.outer) := by rw [← D.stk]; exact I.ok.frames
 refine wpAny_mono ((tame_leaving _ _).any (wpAny_leaves_onW (Q := fun _ s2 => ∃ h', s2 = { s' with heap := h' } ∧ Heap.FlyingW B X.outer e (.ref C) t h' ∧ s'.heap.UpToSlots h') hfr D.fr fl2 fun h' fl' up => ⟨h', rfl, fl', up⟩)) (fun _ s2 z => ?_) fun _ _ z => z
 obtain ⟨⟨h', rfl, fl', up⟩, kd⟩ := z
 obtain ⟨u, k1, k2⟩ := D.un I x.un up ff fl'.1 kB tB
 obtain ⟨o2, e2, _⟩ := fl'.there
 exact ⟨C, e, H', dx, rfl, ⟨x.os.trans I.os, x.bare, u, B, t, fl', k1, k2, hB⟩, ⟨o2, e2, (kd.get he e2).trans hdx⟩, q⟩
theorem IsDef.madeD (D : IsDef X E) (I : Inv X pins σ H s) {oe : Obj} {vs : Array Value} {a0 : Value} (n0 : X.s₀.heap.get? e = none) (ne : H e = none) (he : s.heap.get? e = some oe) (hc : oe.cls = .ref C) (hd : oe.data = .fields vs) (h1 : vs[1]? = some .none) (h0 : vs[0]? = some a0) (q : E (.ref C) oe.dict H) : X.xe (.ref e) s := by
 refine D.xe _ _ ?_
 have hfr : X.A.frames = some (X.env :: X.outer) := by rw [← D.stk]; exact I.ok.frames
 have hin : ∀ env ∈ (X.env :: X.outer), ∀ b, env.frame = some b → b ∈ e :: frs (X.env :: X.outer) := fun env he b hb => .tail _ (List.mem_filterMap.mpr ⟨env, he, hb⟩)
 have stS : s.heap.FunFrames X.base (X.env :: X.outer) := by rw [← D.stk]; exact I.stack
 have ff := PySem.W.funFrames_hide stS hin
 refine wpAny_mono ((tame_leaving _ _).any (wpAny_leaving_firstW (Q := fun _ s2 => ∃ h', s2 = { s with heap := h' } ∧ Heap.LeftW (PySem.W.hideAll s.heap (e :: frs (X.env :: X.outer))) (X.env :: X.outer) e oe.cls a0 s.heap h') hfr ff D.fr he (fun b o q => PySem.W.of_hideAll _ q) (PySem.W.hideAll_none _ (.head _)) hd h1 h0 fun h' z => ⟨h', rfl, z⟩)) (fun _ s2 z => ?_) fun _ _ z => z
 obtain ⟨⟨h', rfl, k1, ⟨_, _, k2⟩, k3, k4⟩, kd⟩ := z
 have gB : ∀ b o, s.heap.get? b = some o → b ≠ e → b ∉ frs X.stack → (PySem.W.hideAll s.heap (e :: frs (X.env :: X.outer))).get? b = some o := fun b o g m n => PySem.W.hideAll_get _ g (by
  rw [← D.stk]
  intro z
  rcases List.mem_cons.mp z with q | q
  ·exact m q
  ·exact n q)
 have nx : ∀ b, b ∉ X.ex := fun b z => by rw [D.ex] at z; cases z
 have be : ∀ b o, X.s₀.heap.get? b = some o → b ≠ e := fun b o g z => by rw [z, n0] at g; cases g
 have kB : ∀ b o, X.s₀.heap.get? b = some o → X.H₀ b = none → b ∉ frs X.outer → (PySem.W.hideAll s.heap (e :: frs (X.env :: X.outer))).get? b = some o := fun b o g m n => gB b o (I.base.keep b o g m n (nx b)) (be b o g) (D.above I g n)
 have tB : ∀ b o, X.s₀.heap.get? b = some o → b ∉ frs X.outer → ∃ o', (PySem.W.hideAll s.heap (e :: frs (X.env :: X.outer))).get? b = some o' := fun b o g n => by
  obtain ⟨o1, e1⟩ := I.base.there b o g (nx b)
  exact ⟨o1, gB b o1 e1 (be b o g) (D.above I g n)⟩
 have u := D.un0 (s' := s) (H' := H) (h' := h') (B := PySem.W.hideAll s.heap (e :: frs (X.env :: X.outer))) I (Un.kept fun _ _ z => z) k4 (by rw [D.stk]; exact ff) k1 kB tB
 have k3' : h'.TracedW (PySem.W.hideAll s.heap (e :: frs (X.env :: X.outer))) e (.ref C) a0 := hc ▸ k3
 have fl : Heap.FlyingW (PySem.W.hideAll s.heap (e :: frs (X.env :: X.outer))) X.outer e (.ref C) a0 h' := ⟨k1, PySem.W.hideAll_none _ (.head _), k2, k3'⟩
 obtain ⟨o2, e2, _⟩ := fl.there
 refine ⟨C, e, H, oe.dict, rfl, ⟨I.os, I.bare, u, _, _, fl, kB, tB, fun a o ea => (I.hok a o ea).stay (fun b u hb eb => ?_) (fun _ z => z) fun _ _ z => z⟩, ⟨o2, e2, kd.get he e2⟩, q⟩
 have hb' : H b ≠ none := by
  rcases hb with rfl | hb
  ·rw [ea]; exact fun z => nomatch z
  ·rw [hb]; exact fun z => nomatch z
 exact gB b u eb (fun z => hb' (z ▸ ne)) fun z => hb' (I.stkFree b z)
end
end L2

end

section
namespace L2
open PySem PySem.Spec PyProof.Rows PySem.W Builtin Builtin.ObjectAttr Builtin.Getset_descriptor
def ExcAt (h : Heap) (x D : Addr) : Prop := ∃ ox, h.get? x = some ox ∧ ox.cls = .ref D
theorem ExcAt.type {M : Model} {h : Heap} {x D : Addr} (I : ExcAt h x D) : Looks M h (typeOf (.ref x)) (.ref D) :=
 match I with | ⟨_, h1, h2⟩ => h2 ▸ (Looks.ld h1).andThen .now
structure ExcCls (K : Frag) (D : Addr) : Prop where
 ga : findIn K (.ref D) "__getattribute__" = some (some (.builtin "BaseException.__getattribute__"))
 gt : findIn K (.ref D) "__getattr__" = some none
 cl : (clsIn K D).isSome = true
 ca : findIn K (.ref D) "__class__" = some (some (.builtin "object.__class__"))
 cn : specialIn K (.builtin "object.__class__") "__get__" = some (some (.builtin "getset_descriptor.__get__"))
 tk : takesIn K (.builtin "object.__class__") = some true
 ob : mroIn K D (.type "object") = some true
 bx : mroIn K D (.type "BaseException") = some true
section
variable {prog : Program} {w : World} {A : Around} {E : Value → Shared → Prop} {s : Shared} {K : Frag} {x D : Addr}
theorem exc_is {M : Model} {T : String} {h : Heap} (X : K.In h) (I : ExcAt h x D) (e : mroIn K D (.type T) = some true) : Looks M h (isInstance (.ref x) (.type T)) true := I.type.andThen (looks_mroIn X e)
theorem exc_found {M : Model} {h : Heap} (O : ExcCls K D) (X : K.In h) (I : ExcAt h x D) : Looks M h (Builtin.ObjectAttr.find (.ref x) (.ref D) "__class__") (.bind (.builtin "getset_descriptor.__get__") (.builtin "object.__class__")) := by
 have d : Looks M h (Builtin.ObjectAttr.dataDescriptor? (some (.builtin "object.__class__")) (some (.builtin "getset_descriptor.__get__"))) (some (.builtin "getset_descriptor.__get__", .builtin "object.__class__")) := (looks_takesIn X O.tk).andThen .now
 have g : Looks M h (Builtin.ObjectAttr.getOf (some (.builtin "object.__class__"))) (some (.builtin "getset_descriptor.__get__")) := looks_specialIn X O.cn
 exact (looks_findIn X O.ca).andThen (g.andThen (d.andThen (Looks.tag .now)))
theorem exc_get {R : Result → Shared → Prop} {tp : Value} (O : ExcCls K D) (X : K.In s.heap) (I : ExcAt s.heap x D) (h : R (.ok (.ret (.ref D))) s) :
  codeAny (model prog w) A (.call (.builtin "getset_descriptor.__get__") ⟨[.builtin "object.__class__", .ref x, tp], []⟩) R s := by
 cases s
 have t := I.type (M := model prog w)
 have o := looks_mroIn (M := model prog w) X O.ob
 have a := dga_obj (.builtin "object.__class__") tp x
 have sl := KF.slot_gs
 refine codeAny_call_builtin sl.plain KF.entry_gs (sl.check _ _ _ _ _ _ _ _ KF.type_class (KF.args_gs _ _ _) ?_)
 have ow := KF.owner_class
 unfold Builtin.«getset_descriptor.__get__» descrGet descrGetter descrCheckInstance descrNameAndClass isInstance
 simp only [a, ow]
 repeat (first | with_reducible refine Looks.at (by assumption) ?_ | wp_step)
 simp only [ow]
 repeat (first | with_reducible refine Looks.at (by assumption) ?_ | wp_step)
 have q : (Code.builtin "object.__class__" ⟨[.ref x], []⟩).quiet = true := Code.quiet_builtin _ (by decide +kernel)
 refine ⟨q, codeAny_builtin KF.entry_class ?_⟩
 simp only [Builtin.«object.__class__», shownTypeOf]
 repeat (first | assumption | with_reducible refine Looks.at (by assumption) ?_ | wp_step)
set_option maxHeartbeats 1000000 in
theorem exc_class {Q : Option Value → Shared → Prop} (O : ExcCls K D) (X : K.In s.heap) (I : ExcAt s.heap x D) (h : Q (some (.ref D)) { s with toks := s.toks + 1 }) : wpAny (model prog w) A (getAttr? (.ref x) "__class__") Q E s := by
 cases s
 have L0 := I.type (M := model prog w)
 have L1 := looks_findIn (M := model prog w) X O.ga
 have L2 := looks_findIn (M := model prog w) X O.gt
 have L3 := exc_found (M := model prog w) O X I
 have L4 := exc_is (M := model prog w) X I O.bx
 have b := PySem.F.attr_ValueError.ga.bind (.ref x)
 have n : (Value.builtin "BaseException.__getattribute__" == Value.builtin "object.__getattribute__") = false := by decide +kernel
 simp only [getAttr?, getAttrBy?, getAttrBy]
 repeat (any_goals (first | assumption | with_reducible refine Looks.at (by assumption) ?_ | wp_step))
 refine codeAny_call_builtin PySem.F.attr_ValueError.ga.plain F.entry_bexc_ga ?_
 have kd : builtinKind "BaseException.__getattribute__" = some .slot := by decide +kernel
 have sp : splitId "BaseException.__getattribute__" = some ("BaseException", "__getattribute__") := by decide +kernel
 have ar := F.args_bexc_ga (.ref x)
 simp only [checkBuiltinCall, kd, sp]
 repeat (any_goals (first | assumption | with_reducible refine Looks.at (by assumption) ?_ | exact wpAny_of_eq (ar _) (wpAny_pure ‹_›) | wp_step))
 refine exc_get O X I ?_
 repeat (any_goals (first | assumption | wp_step))
theorem kitx_exc (O : ExcCls K D) : KitX K (.ref x) (.ref D) (fun h => ExcAt h x D) := by
 obtain ⟨cd, hc⟩ := Option.isSome_iff_exists.mp O.cl
 have at_ : ∃ c d sl, K.lookup D = some ⟨c, d, .cls cd, sl⟩ := by
  unfold clsIn at hc
  split at hc
  ·rename_i ho; exact ⟨_, _, _, by rw [ho]; cases hc; rfl⟩
  ·cases hc
 obtain ⟨c, d, sl, ho⟩ := at_
 refine ⟨fun _ _ _ I => I.type, fun _ _ X _ => ?_, fun h tp dd its n sl' X htp => ?_, fun X I k => exc_class O X I k⟩
 ·exact (Looks.ld (X _ _ ho)).andThen .now
 ·cases e : (Value.ref D == Value.ref tp)
  ·rfl
  ·have e' : D = tp := by simpa using e
   have := X _ _ ho
   rw [e', htp] at this
   cases this
end
section
variable {X : Cx} {pins : List (Addr × Obj)} {σ : St} {H : Hp} {s : Shared} {A : Around} {E : Value → Shared → Prop} {Q : Value → Shared → Prop} {c : Value} {b : Bool} {a D : Addr}
end
end L2

end

section
namespace L2
open PySem PySem.Spec PyProof.Rows
abbrev bmV : List Value := [.type "ValueError", .type "Exception", .type "BaseException", .type "object"]
section
variable {X : Cx} {E : XK} {st : Stmt} {rest : List Stmt} {t : TS}
end
section
variable {P : Program} {w : World} {K : PySem.W.Frag} {mg : Str → Option Value} {base : Heap}
structure FnE (P : Program) (w : World) (K : PySem.W.Frag) (mg : Str → Option Value) (base : Heap) (n : Nat) (x : Str) (ps : List Str) (sp : Sp) : Prop where
 ex : ∃ (f : Addr) (fd : FuncData), FnOk P w K mg base (CXE P w) n f fd ps sp ∧ mg x = some (.ref f) ∧ PySem.W.keepIn K (.ref f) = true ∧ Binds K fd ps []
theorem isDef_cx {N : List Str} {qual : Str} {scope : Scope} {f : Addr} {cd : Value} {A : Around} {outer : List Env} {s : Shared} {H : Hp} {E : XK} : IsDef (cxOf (CXE P w) P w K mg base N qual scope f cd A outer s H E) E :=
 ⟨rfl, rfl, rfl, fun e s' h => wpAny_mono h (fun _ _ z => z) fun _ _ z => z.elim⟩
theorem Df.fnE {x : Str} {st : Stmt} {N ps : List Str} {k : Nat} {sp : Sp} (F : Df K mg x st ps) (S : FnScope N ps (defScope st)) (len : ∀ vs H Q E, sp vs H Q E → vs.length = ps.length)
  (hbody : ∀ (f : Addr) (cdv : Value) (A : Around) (outer : List Env) (s : Shared) (H : Hp) (vs : List V) (Q : VK) (E : XK), Room k (A.deeper (envOfC x (defScope st) s.heap.objs.size f cdv)) → sp vs H Q E →
   ∃ t, PSs (cxOf (CXE P w) P w K mg base N x (defScope st) f cdv A outer s H E) (defBody st) t ∧ t { nx := fun _ H' => Q .non H', rt := Q } (start N vs) H) : FnE P w K mg base (k + 1) x ps sp := by
 obtain ⟨f, fd, hF, hm, hb⟩ := F.ex
 have kp := hF.kp
 obtain ⟨oc, od, kV, doc, pm, an, cdv, ct, osl, rfl, lk, hcd⟩ := hF.ex
 exact ⟨f, _, fn_of lk hcd S len fun A outer s H vs Q E hr h => hbody f cdv A outer s H vs Q E hr h, hm, kp, hb⟩
def cCallE (sp : Sp) (E : XK) (t : TA) : TE := fun σ H Q => t σ H fun vs H1 => sp vs H1 Q E
theorem c_callE {X : Cx} {E : XK} (D : IsDef X E) {n : Nat} {x : Str} {ps : List Str} {sp : Sp} {e : Expr} {es : List Expr} {t : TA} {p pos : Pos} (F : FnE X.prog X.w X.K X.mg X.base n x ps sp) (hr : Room n X.A) (hg : Gl X x) (ha : PA X (e :: es) t)
  (hdb : (x == ("__debug__" : Str)) = false := by decide) (he : starEach (e :: es) X.env = (false, eval e X.env) :: starEach es X.env := by rfl) (hpl : (backTo pos (starEach es X.env)).any (·.1) = false := by rfl) :
  PE X (.Call (.Name x p) (e :: es) [] pos) (cCallE sp E t) := by
 obtain ⟨f, fd, F, hm, hk, hb⟩ := F.ex
 refine (pe_call (dvs := []) (E := E) F hr hg hm hk hb .nil D.passes ha hdb he hpl).weak fun σ H Q q => ?_
 have e : ∀ vs : List V, vs ++ [] = vs := fun vs => List.append_nil vs
 show t σ H fun vs H1 => sp (vs ++ []) H1 Q E
 simp only [e]
 exact q
end
end L2

end

section
namespace L2
open PySem PySem.Spec PyProof.Rows
abbrev lamEnv (qual : Str) (scope : Scope) (L f : Addr) (cd : Value) (cl : List (Str × Addr)) : Env := PySem.W.envX qual scope L f cd cl
def lamCx (P : Program) (w : World) (K : PySem.W.Frag) (mg : Str → Option Value) (base : Heap) (N : List Str) (qual : Str) (scope : Scope) (f : Addr) (cd : Value) (cl : List (Str × Addr)) (A : Around) (outer : List Env) (s : Shared) (H : Hp) (E : XK) : Cx where
 prog := P
 w := w
 K := K
 mg := mg
 base := base
 A := A.deeper (lamEnv qual scope s.heap.objs.size f cd cl)
 N := N
 s₀ := s
 H₀ := H
 env := lamEnv qual scope s.heap.objs.size f cd cl
 outer := outer
 stack := lamEnv qual scope s.heap.objs.size f cd cl :: outer
 ex := []
 calm := true
 fn := fun _ => false
 pn := []
 xe := fun e s' => wpAny (model P w) (A.deeper (lamEnv qual scope s.heap.objs.size f cd cl)) (leaving (lamEnv qual scope s.heap.objs.size f cd cl) e) (fun _ s'' => CXE P w outer H s E e s'') (fun e' s'' => CXE P w outer H s E e' s'') s'
theorem isDef_lam {P : Program} {w : World} {K : PySem.W.Frag} {mg : Str → Option Value} {base : Heap} {N : List Str} {qual : Str} {scope : Scope} {f : Addr} {cd : Value} {cl : List (Str × Addr)} {A : Around} {outer : List Env} {s : Shared} {H : Hp} {E : XK} :
  IsDef (lamCx P w K mg base N qual scope f cd cl A outer s H E) E :=
 ⟨rfl, rfl, rfl, fun e s' h => wpAny_mono h (fun _ _ z => z) fun _ _ z => z.elim⟩
section
variable {X : Cx} {pins : List (Addr × Obj)} {σ : St} {H : Hp} {s s' : Shared} {scope : Scope} {N' : List Str} {cap : List (Option Nat)} {A : Around} {outer : List Env} {qual : Str} {f : Addr} {cd : Value} {E : XK}
theorem lam_start (I : Inv X pins σ H s) (B : BlockScope X.env.scope X.N scope N' cap) (nc : ∀ x ∈ scope.names, x.2 ≠ .cell) (hd : A.handled = none) (e0 : Env0 X.prog X.w X.K X.mg X.base A outer s' H)
  (hcell : ∀ x c v, X.env.cells.lookup x = some c → s.heap.IsCell c v → s'.heap.IsCell c v) {h1 : Heap} {tk : Nat} (hn : h1.Ns s'.heap.objs.size fun _ => none) (hk : ∀ b o, s'.heap.get? b = some o → h1.get? b = some o) :
  Inv (lamCx X.prog X.w X.K X.mg X.base N' qual scope f cd (clo X.env.cells scope.names []) A outer s' H E) [] (capOf cap σ) H { s' with heap := h1, toks := tk } := by
 have acc : ∀ x c, (clo X.env.cells scope.names []).lookup x = some c → X.env.cells.lookup x = some c := fun x c e => (clo_look _ _ e).elim id fun z => nomatch z
 have noA : ∀ b : Addr, b ∉ (lamCx X.prog X.w X.K X.mg X.base N' qual scope f cd (clo X.env.cells scope.names []) A outer s' H E).ex := fun b z => absurd (show b ∈ ([] : List Addr) from z) (by simp)
 refine ⟨⟨e0.mod, B.kind, rfl, rfl, Nat.le_refl _, fun x y c a b => I.ok.inj x y c (acc x c a) (acc y c b), fun x hx => ?_, fun x c z _ => (nomatch (show false = true from z)), fun _ => hd, Around.frames_deeper e0.frames, .inr ⟨rfl, rfl⟩, fun b z => absurd z (noA b), e0.bs, e0.bsz, fun b _ _ => noA b, fun b z => absurd z (noA b), e0.funs, e0.frf⟩,
  rfl, e0.bare, Un.kept hk, ⟨_, hn, fun i x v h1' h2 h3 => ?_⟩, fun x c h => ?_, e0.hok.fresh (Nat.le_refl _), fun x c h => I.freeC x c (acc x c h), fun p hp => absurd (show p ∈ ([] : List (Addr × Obj)) from hp) (by simp), e0.hok.kept hk, ?_⟩
 ·have hx' : scope.names.lookup x = some .cell ∨ scope.names.lookup x = some .free := hx
  rcases hx' with z | z
  ·exact absurd rfl (nc _ (PySem.mem_of_lookup z))
  ·have hm := PySem.mem_of_lookup z
   obtain ⟨c, hc⟩ := I.ok.has x (B.free _ hm rfl)
   exact ⟨c, clo_has hc _ _ hm⟩
 ·have h2' : (capOf cap σ)[i]? = some (some v) := h2
  unfold capOf at h2'
  rw [List.getElem?_map] at h2'
  cases q : cap[i]? with
  | none => rw [q] at h2'; cases h2'
  | some o =>
   rw [q] at h2'
   cases o with
   | none => exact nomatch Option.some.inj h2'
   | some j =>
    have h2'' : (match σ[j]? with | some v => v | none => none) = some v := Option.some.inj h2'
    cases qs : σ[j]? with
    | none => rw [qs] at h2''; cases h2''
    | some v' =>
     rw [qs] at h2''
     have hs : σ[j]? = some (some v) := by rw [qs]; exact congrArg some h2''
     obtain ⟨x', e1, e2, e3, e4⟩ := B.capt i j q
     have h1'' : N'[i]? = some x := h1'
     rw [h1''] at e1; cases e1
     have hcf := B.free _ e3 rfl
     obtain ⟨m, hn, hl⟩ := I.loc
     obtain ⟨u, ru, lk⟩ := hl j x v e2 hs (hcf.elim (fun z => .inr (.inl z)) fun z => .inr (.inr z))
     refine ⟨u, ru, ?_⟩
     rcases lk with ⟨lk, _⟩ | ⟨_, c, hc, ic⟩
     ·have lk' : X.env.scope.names.lookup x = some .local := lk
      have hcf' : X.env.scope.names.lookup x = some .cell ∨ X.env.scope.names.lookup x = some .free := hcf
      rw [lk'] at hcf'; rcases hcf' with z | z <;> cases z
     ·exact .inr ⟨.inr (B.own _ e3), c, clo_has hc _ _ e3, (hcell x c _ hc ic).keeps hk⟩
 ·obtain ⟨v, z⟩ := I.cell x c (acc x c h)
  exact ⟨v, (hcell x c v (acc x c h) z).keeps hk⟩
 ·unfold capOf
  show _ = N'.length
  rw [List.length_map]
  exact B.len
theorem lam_run (I : Inv X pins σ H s) (B : BlockScope X.env.scope X.N scope N' cap) (nc : ∀ x ∈ scope.names, x.2 ≠ .cell) (co : scope.isCoroutine = false) (gen : scope.isGenerator = false) {k : Nat} (hr : Room k A) (e0 : Env0 X.prog X.w X.K X.mg X.base A outer s' H)
  (hcell : ∀ x c v, X.env.cells.lookup x = some c → s.heap.IsCell c v → s'.heap.IsCell c v) {params : Arguments} {body : Expr} {pm ctv : Value} {c' : Addr} {te : TE} {Q : VK}
  (ho : s'.heap.get? f = some (PySem.W.kla_obj "<lambda>" qual params body scope (clo X.env.cells scope.names []) pm c' ctv)) (hcd : s'.heap.CodeRec (.ref c') qual)
  (hb : bindArgs (PySem.W.kla_fn "<lambda>" qual params body scope (clo X.env.cells scope.names []) pm (.ref c') ctv) ⟨[], []⟩ = pure [])
  (hbody : PE (lamCx X.prog X.w X.K X.mg X.base N' qual scope f (.ref c') (clo X.env.cells scope.names []) A outer s' H E) body te) (q : te (capOf cap σ) H Q) :
  codeAny (model X.prog X.w) A (.call (.ref f) ⟨[], []⟩) (CR (CXE X.prog X.w) outer X.prog X.w H s' Q E) s' := by
 refine PySem.W.kla_callFunE hr.depth ho rfl co gen rfl hcd ?_
 rw [hb]
 refine wpAny_pure (wpAny_newFunctionEnv nc (fun x hx => nomatch hx) (fun h1 hns hsb => ?_) B.kind)
 have hk : ∀ b o, s'.heap.get? b = some o → h1.get? b = some o := fun b o e => hsb.extBut b o (Nat.ne_of_lt (Heap.lt_size e)) (Heap.get?_push_of_some _ e)
 have hl : s'.heap.NoLimit := e0.mod.nolimit.keeps fun b o e => (e0.bs b o e).1
 refine ⟨hl.keeps hk, ?_⟩
 show codeAny _ _ (.expr body (lamEnv qual scope s'.heap.objs.size f (.ref c') (clo X.env.cells scope.names []))) _ _
 refine PySem.W.kla_codeExpr ?_
 have J := lam_start (tk := s'.toks + ([] : List (Str × Value)).length) (qual := qual) (f := f) (cd := .ref c') (E := E) I B nc hr.hd e0 hcell hns hk
 refine wpAny_mono (hbody [] _ (capOf cap σ) H Q J q) (fun v s'' z => ?_) fun e s'' z => z
 obtain ⟨v', H', J', rv, qv⟩ := z
 exact ⟨v', H', J'.os, J'.bare, J'.base, J'.hok, rv, qv⟩
end
end L2

end

section
namespace L2
open PySem PySem.Spec PyProof.Rows
abbrev Cx.hot (X : Cx) (A : Around) : Cx := { X with A := A, calm := false, xe := fun _ _ => False }
section
variable {X : Cx} {pins : List (Addr × Obj)} {σ : St} {H H' : Hp} {s s' : Shared}
theorem Inv.hot (I : Inv X pins σ H s) {A : Around} (hf : A.frames = some X.stack) : Inv (X.hot A) pins σ H s :=
 ⟨⟨I.ok.mod, I.ok.kind, I.ok.glob, I.ok.blt, I.ok.above, I.ok.inj, I.ok.has, I.ok.cab, fun z => (nomatch (show false = true from z)), hf, I.ok.stk, I.ok.exf, I.ok.bs, I.ok.bsz, I.ok.noex, I.ok.exfs, I.ok.funs, I.ok.frf⟩, I.os, I.bare, I.base, I.loc, I.cell, I.free, I.freeC, I.pin, I.hok, I.len⟩
theorem Inv.cool {A : Around} (ok : X.Ok) (I : Inv (X.hot A) pins σ H s) : Inv X pins σ H s := ⟨ok, I.os, I.bare, I.base, I.loc, I.cell, I.free, I.freeC, I.pin, I.hok, I.len⟩
theorem settle {outer : List Env} {B h' : Heap} (u : Un (frs outer) [] H H' s.heap s'.heap) (kB : ∀ b o, s.heap.get? b = some o → H b = none → b ∉ frs outer → B.get? b = some o)
  (tB : ∀ b o, s.heap.get? b = some o → b ∉ frs outer → ∃ o', B.get? b = some o') (ff : s'.heap.FunFrames B outer) (st : B.StaysIn h') (up : s'.heap.UpToSlots h') : Un (frs outer) [] H H' s.heap h' := by
 have frn : ∀ b, b ∈ frs outer → ∀ o, s'.heap.get? b = some o → ∀ vs, o.data ≠ .fields vs := fun b hb o eo => by
  obtain ⟨_, o', ho', hd⟩ := ff.mem hb
  rw [eo] at ho'
  cases ho'
  exact hd
 refine ⟨fun b o e n hb _ => st b o (kB b o e n hb), fun b o e n hb hx => ?_, u.free, fun b o e hx => ?_, u.tups, u.frzs, u.tbls⟩
 ·obtain ⟨s1, e1⟩ := u.slot b o e n hb hx
  obtain ⟨s2, e2⟩ := up b _ e1 (frn b hb _ e1)
  exact ⟨s2, e2⟩
 ·by_cases hb : b ∈ frs outer
  ·obtain ⟨o1, e1⟩ := u.there b o e hx
   obtain ⟨s2, e2⟩ := up b _ e1 (frn b hb _ e1)
   exact ⟨_, e2⟩
  ·obtain ⟨o1, e1⟩ := tB b o e hb
   exact ⟨o1, st b o1 e1⟩
theorem Inv.track (I : Inv X pins σ H s) {a : Addr} {o : HO} (na : a ≠ X.env.locals) (nc : ∀ x c, X.env.cells.lookup x = some c → c ≠ a) (np : ∀ p ∈ X.pn ++ pins, p.1 ≠ a) (n0 : X.s₀.heap.get? a = none) (hn : H a = none)
  (ho : ObjOk X.prog X.w (upd H a o) s.heap a o) : Inv X pins σ (upd H a o) s := by
 have ne : ∀ b u, H b = some u → b ≠ a := fun b u e z => by rw [z, hn] at e; cases e
 refine ⟨I.ok, I.os, I.bare, ⟨I.base.keep, I.base.slot, fun b ob e n hx => ?_, I.base.there, fun b xs q => ?_, fun b ob xs q => ?_, fun b ps q => ?_⟩, I.loc, I.cell, ?_, fun x c e => ?_, fun p hp => ?_, fun b ob e => ?_, I.len⟩
 ·rw [upd_ne (fun z => by rw [z, n0] at e; cases e)]; exact I.base.free b ob e n hx
 ·have := I.base.tups b xs q
  rw [upd_ne (ne b _ this)]; exact this
 ·have := I.base.frzs b ob xs q
  rw [upd_ne (ne b _ this)]; exact this
 ·obtain ⟨m, e⟩ := I.base.tbls b ps q
  exact ⟨m, by rw [upd_ne (ne b _ e)]; exact e⟩
 ·rw [upd_ne (Ne.symm na)]; exact I.free
 ·rw [upd_ne (nc x c e)]; exact I.freeC x c e
 ·obtain ⟨e, n, r⟩ := I.pin p hp
  exact ⟨e, by rw [upd_ne (np p hp)]; exact n, r⟩
 ·by_cases z : b = a
  ·subst z
   rw [upd_same] at e
   cases e
   exact ho
  ·rw [upd_ne z] at e
   refine (I.hok b ob e).stay (fun _ _ _ q => q) (fun c q => ?_) fun c xs q => ?_
   ·rw [upd_ne (ne c _ q)]; exact q
   ·rw [upd_ne (ne c _ q)]; exact q
theorem goes_ok {M : Model} {A : Around} {E : Value → Shared → Prop} {i : Nat} {x : Str} {pos : Pos} {Q : Unit → Shared → Prop} (I : Inv X pins σ H s) (hN : X.N.Nodup) (hi : X.N[i]? = some x) (hx : X.env.kindOf x = some .local)
  (h : ∀ s', Inv X pins (σ.set i none) H s' → Q () s') : wpAny M A (do bindName X.env x .none; unbindBehindTheSuite X.env x pos) Q E s := by
 obtain ⟨m, hn, hl⟩ := id I.loc
 have hcls : (X.env.scope.kind == .class || (X.env.scope.kind == .module && X.env.locals != X.env.globals)) = false := by rw [I.ok.kind]; rfl
 have cne := I.cne
 refine wpAny_nameGoes_keeps hx hn hcls fun h' v hn' hs => ?_
 obtain ⟨oL, _, _, hoL, _⟩ := id hn
 have nl : ∀ b o, X.s₀.heap.get? b = some o → b ≠ X.env.locals := fun b o e => Nat.ne_of_lt (Nat.lt_of_lt_of_le (Heap.lt_size e) I.ok.above)
 refine h _ ⟨I.ok, I.os, I.bare, ⟨fun b o e n hb hx => (hs.2 b (nl b o e)).trans (I.base.keep b o e n hb hx), fun b o e n hb hx => ?_, I.base.free, fun b o e hx => ?_, I.base.tups, I.base.frzs, I.base.tbls⟩, ⟨_, hn', fun j y v' e1 e2 e3 => ?_⟩, fun y c e => ?_, I.free, I.freeC, fun p hp => ?_, fun b ob e => ?_, by simpa using I.len⟩
 ·obtain ⟨sl, e1⟩ := I.base.slot b o e n hb hx
  exact ⟨sl, (hs.2 b (nl b o e)).trans e1⟩
 ·obtain ⟨o', e1⟩ := I.base.there b o e hx
  exact ⟨o', (hs.2 b (nl b o e)).trans e1⟩
 ·have hj : j ≠ i := fun z => by
   subst z
   have hiσ : j < σ.length := by rw [I.len]; exact (List.getElem?_eq_some_iff.mp hi).1
   rw [List.getElem?_set_self hiσ] at e2
   cases e2
  rw [List.getElem?_set_ne (Ne.symm hj)] at e2
  obtain ⟨u', r', q⟩ := hl j y v' e1 e2 e3
  refine ⟨u', r', ?_⟩
  rcases q with ⟨k, e⟩ | ⟨k, c, e, z⟩
  ·refine .inl ⟨k, ?_⟩
   have : y ≠ x := fun e => hj (nodup_ix hN e1 (e ▸ hi))
   simp [this, e]
  ·exact .inr ⟨k, c, e, z.sameBut hs (cne y c e)⟩
 ·obtain ⟨w', z⟩ := I.cell y c e
  exact ⟨w', z.sameBut hs (cne y c e)⟩
 ·obtain ⟨e, n, ne, nf, d⟩ := I.pin p hp
  exact ⟨(hs.2 p.1 ne).trans e, n, ne, nf, d⟩
 ·refine (I.hok b ob e).stay (fun c w' hc q => (hs.2 c ?_).trans q) (fun _ q => q) fun _ _ q => q
  rintro rfl
  rcases hc with hc | hc
  ·rw [← hc, I.free] at e; cases e
  ·rw [I.free] at hc; cases hc
end
theorem exc_match {M : Model} {A : Around} {E : Value → Shared → Prop} {s : Shared} {K : PySem.W.Frag} {e C D : Addr} {Q : Bool → Shared → Prop} (X : K.In s.heap) (I : ExcAt s.heap e C) (hM : PySem.W.mroIn K C (.ref D) = some true)
  (hB : PySem.W.mroIn K D (.type "BaseException") = some true) (hT : PySem.W.typeIn K (.ref D) = some (.type "type")) (hq : Q true s) : wpAny M A (excMatches (.ref e) (.ref D)) Q E s := by
 have L0 := I.type (M := M)
 have L1 := PySem.W.looks_mroIn (M := M) X hM
 have L2 := PySem.W.looks_mroIn (M := M) X hB
 have L3 := PySem.W.looks_typeIn (M := M) X hT
 have LI : PySem.W.Looks M s.heap (isType (.ref D)) true := by
  unfold PySem.W.mroIn at hB
  obtain ⟨cd, hc, _⟩ := Option.bind_eq_some_iff.mp hB
  unfold PySem.W.clsIn at hc
  split at hc
  ·rename_i c' d' cd' sl' ho
   intro A' Q' E' s' k q
   unfold isType loadHead
   exact wpAny_bind (wpAny_loadPart (k _ _ (X _ _ ho)) (wpAny_pure q))
  ·cases hc
 have LX : PySem.W.Looks M s.heap (isExcClass (.ref D)) true := LI.andThen L2
 obtain ⟨hh, g, d, tk, os⟩ := s
 unfold excMatches isInstance
 refine wpAny_bind (wpAny_bind (L3.at ?_))
 rw [tc_notTuple]
 refine wpAny_pure ?_
 simp only [Bool.false_eq_true, if_false]
 refine wpAny_bind (wpAny_pure ?_)
 simp only [List.forIn_cons, List.forIn_nil]
 refine wpAny_bind (wpAny_bind (wpAny_bind (LX.at ?_)))
 simp only [Bool.not_true, Bool.false_eq_true, if_false]
 refine wpAny_pure (wpAny_pure ?_)
 refine wpAny_bind (L0.at ?_)
 refine wpAny_bind (wpAny_bind (wpAny_bind (L1.at ?_)))
 simp only [if_true]
 exact wpAny_pure (wpAny_pure (wpAny_pure hq))
structure RoomQ (k : Nat) (A : Around) : Prop where
 dp : A.depth + 3 * k + 5 < recursionLimit
 un : A.units + 16 * k + 200 < cLine
 gd : A.guards = some []
theorem Room.q {k : Nat} {A : Around} (r : Room k A) : RoomQ k A := ⟨r.dp, r.un, r.gd⟩
theorem RoomQ.mark {k : Nat} {A : Around} (r : RoomQ k A) (h : Option Value) : RoomQ k (A.mark h) := ⟨r.dp, r.un, r.gd⟩
theorem RoomQ.room {k : Nat} {A : Around} (r : RoomQ k A) : Room k { A with handled := none } := ⟨rfl, r.dp, r.un, r.gd⟩
theorem RoomQ.mono {j k : Nat} {A : Around} (r : RoomQ k A) (h : j ≤ k) : RoomQ j A := ⟨by have := r.dp; omega, by have := r.un; omega, r.gd⟩
theorem run_def {P : Program} {w : World} {K : PySem.W.Frag} {mg : Str → Option Value} {base : Heap} {k : Nat} {f : Addr} {name qual : Str} {params : Arguments} {body : List Stmt} {scope : Scope} {dV kV doc pm cdv ct oc : Value} {an od : Option Addr}
  {osl : Array (Option Value)} {N ps : List Str} (lk : K.lookup f = some ⟨oc, od, .func (PySem.W.fnOf name qual params body scope dV kV doc pm an cdv ct), osl⟩) (hcd : PySem.W.codeIn K cdv qual = true) (S : FnScope N ps scope)
  {A : Around} {outer : List Env} {s : Shared} {H : Hp} {args : Args} {us : List Value} {vs : List V} {R : Result → Shared → Prop} (hr : RoomQ (k + 1) A) (e0 : Env0 P w K mg base A outer s H)
  (hb : BindsTo s (PySem.W.fnOf name qual params body scope dV kV doc pm an cdv ct) args (ps.zip us)) (r : Vals vs us) (hl : vs.length = ps.length)
  (hbody : ∀ s1, Inv (cxOf CX0 P w K mg base N qual scope f cdv { A with handled := none } outer s H E0) [] (start N vs) H s1 → wpAny (model P w) (A.deeper (envOfC qual scope s.heap.objs.size f cdv)) (execs body (envOfC qual scope s.heap.objs.size f cdv))
   (fun fl s' => match fl with | .ret u => R (.ok (.ret u)) s' | .next => R (.ok (.ret .none)) s' | _ => False) (fun _ _ => False) s1) :
  codeAny (model P w) A (.call (.ref f) args) R s := by
 have KX : K.In s.heap := e0.mod.kin.keeps fun b o e => (e0.bs b o e).1
 have lim : s.heap.NoLimit := e0.mod.nolimit.keeps fun b o e => (e0.bs b o e).1
 have hkind : ∀ y ∈ ps.zip us, scope.names.lookup y.1 = some .local ∨ (scope.names.lookup y.1 = some .cell ∧ ((cellsFrom (s.heap.objs.size + 1) scope.names []).lookup y.1).isSome = true) := fun ⟨n, v⟩ hy => by
  rcases S.par n (List.of_mem_zip hy).1 with q | q
  ·exact .inl q
  ·exact .inr ⟨q, PySem.W.cellsFrom_some _ _ _ (.inl q)⟩
 refine codeAny_call_function hr.room.depth (KX _ _ lk) rfl S.co S.gen rfl (PySem.W.codeRec_of KX hcd) (hb _ _ _ _ ?_)
 refine wpAny_newFunctionEnv_cells S.kind hkind fun env he s1 x => ?_
 subst he
 refine ⟨lim.keeps x.toInCall.keep, codeAny_func ?_⟩
 have e1 : Env0 P w K mg base { A with handled := none } outer s H := ⟨e0.frames, e0.mod, e0.bs, e0.bsz, e0.funs, e0.frf, e0.hok, e0.bare⟩
 have I : Inv (cxOf CX0 P w K mg base N qual scope f cdv { A with handled := none } outer s H E0) [] (start N vs) H s1 := inv_start S rfl e1 hl r x
 refine wpAny_mono (hbody s1 I) (fun fl s' hs => ?_) fun e s' hs => hs.elim
 cases fl with
 | ret u => exact hs
 | next => exact hs
 | brk => exact hs.elim
 | cont => exact hs.elim
end L2

end

section
namespace L2
open PySem PySem.Spec PyProof.Rows
def saidQ (Q : VK) : VK := fun v H1 => ∀ t, H1 t = none → Q (.ref t) (upd H1 t (.tup [.str "told", v]))
section
variable {P : Program} {w : World} {K : PySem.W.Frag} {mg : Str → Option Value} {base : Heap}
structure FnQ (P : Program) (w : World) (K : PySem.W.Frag) (mg : Str → Option Value) (base : Heap) (n : Nat) (x : Str) (ps : List Str) (sp : Sp) : Prop where
 ex : ∃ (f : Addr) (fd : FuncData), (∀ (A : Around) (outer : List Env) (s : Shared) (H : Hp) (args : Args) (us : List Value) (vs : List V) (Q : VK), RoomQ n A → Env0 P w K mg base A outer s H → BindsTo s fd args (ps.zip us) → Vals vs us → sp vs H Q E0 →
  codeAny (model P w) A (.call (.ref f) args) (CR CX0 outer P w H s Q E0) s) ∧ (∀ vs H Q E, sp vs H Q E → vs.length = ps.length) ∧ mg x = some (.ref f) ∧ PySem.W.keepIn K (.ref f) = true ∧ Binds K fd ps []
structure FnS (P : Program) (w : World) (K : PySem.W.Frag) (mg : Str → Option Value) (base : Heap) (n : Nat) (x : Str) (ps : List Str) (sp : List Env → Shared → Sp) : Prop where
 ex : ∃ (f : Addr) (fd : FuncData), (∀ (A : Around) (outer : List Env) (s : Shared) (H : Hp) (args : Args) (us : List Value) (vs : List V) (Q : VK), Room n A → Env0 P w K mg base A outer s H → BindsTo s fd args (ps.zip us) → Vals vs us → sp outer s vs H Q E0 →
  codeAny (model P w) A (.call (.ref f) args) (CR CX0 outer P w H s Q E0) s) ∧ mg x = some (.ref f) ∧ PySem.W.keepIn K (.ref f) = true ∧ Binds K fd ps []
theorem Df.fnQ {x : Str} {st : Stmt} {N ps : List Str} {k : Nat} {sp : Sp} (F : Df K mg x st ps) (S : FnScope N ps (defScope st)) (len : ∀ vs H Q E, sp vs H Q E → vs.length = ps.length)
  (hbody : ∀ (f : Addr) (cdv : Value) (A : Around) (outer : List Env) (s : Shared) (H : Hp) (vs : List V) (Q : VK), RoomQ k (A.deeper (envOfC x (defScope st) s.heap.objs.size f cdv)) → sp vs H Q E0 →
   ∃ t, PSs ((cxOf CX0 P w K mg base N x (defScope st) f cdv { A with handled := none } outer s H E0).hot (A.deeper (envOfC x (defScope st) s.heap.objs.size f cdv))) (defBody st) t ∧ t { nx := fun _ H' => Q .non H', rt := Q } (start N vs) H) :
  FnQ P w K mg base (k + 1) x ps sp := by
 obtain ⟨f, fd, hF, hm, hb⟩ := F.ex
 have kp := hF.kp
 obtain ⟨oc, od, kV, doc, pm, an, cdv, ct, osl, rfl, lk, hcd⟩ := hF.ex
 refine ⟨f, _, fun A outer s H args us vs Q hr e0 hbt r hsp => ?_, len, hm, kp, hb⟩
 refine run_def lk hcd S hr e0 hbt r (len _ _ _ _ hsp) fun s1 I => ?_
 have hr' : RoomQ k (A.deeper (envOfC x (defScope st) s.heap.objs.size f cdv)) := have z := hr.room.deeper (envOfC x (defScope st) s.heap.objs.size f cdv); ⟨z.dp, z.un, z.gd⟩
 obtain ⟨t, ht, hq⟩ := hbody f cdv A outer s H vs Q hr' hsp
 refine wpAny_mono (ht [] s1 (start N vs) H _ (I.hot (Around.frames_deeper e0.frames)) hq) (fun fl s' hs => ?_) fun e s' hs => hs
 cases fl with
 | ret u =>
  obtain ⟨v, σ', H', J, rv, q⟩ := hs
  exact ⟨v, H', J.os, J.bare, J.base, J.hok, rv, q⟩
 | next =>
  obtain ⟨σ', H', J, q⟩ := hs
  exact ⟨.non, H', J.os, J.bare, J.base, J.hok, rfl, q⟩
 | brk => obtain ⟨_, _, _, q⟩ := hs; exact q
 | cont => obtain ⟨_, _, _, q⟩ := hs; exact q
theorem c_callQ {X : Cx} {n : Nat} {x : Str} {ps : List Str} {sp : Sp} {e : Expr} {es : List Expr} {t : TA} {p pos : Pos} (F : FnQ X.prog X.w X.K X.mg X.base n x ps sp) (hr : RoomQ n X.A) (hg : Gl X x) (ha : PA X (e :: es) t)
  (hdb : (x == ("__debug__" : Str)) = false := by decide) (he : starEach (e :: es) X.env = (false, eval e X.env) :: starEach es X.env := by rfl) (hpl : (backTo pos (starEach es X.env)).any (·.1) = false := by rfl) :
  PE X (.Call (.Name x p) (e :: es) [] pos) (cCall sp t) := by
 obtain ⟨f, fd, F, hlen, hm, hk, hb⟩ := F.ex
 intro pins s σ H Q I h
 refine wpAny_Call_Name_kw (ld_glob I hg hm ?_ hdb)
 refine PySem.W.callWith_K (h₀ := X.base) I.ok.mod.kin hk (thn (ha pos pins s σ H _ I h) fun us s1 ⟨vs, H1, I1, r, q⟩ => ⟨I1.kIn, ?_⟩) he hpl
 have hl : us.length = ps.length := by rw [← r.length]; exact hlen _ _ _ _ q
 have hbb := hb s1 us I1.kIn (by rw [List.append_nil]; exact hl)
 rw [List.append_nil] at hbb
 refine wpAny_call (codeAny_mono (F X.A X.stack s1 H1 ⟨us, []⟩ us vs Q hr I1.env0 hbb r q) fun r s' hq => ?_)
 cases r with
 | error e => exact hq.elim
 | ok fl =>
  cases fl with
  | ret u => exact I1.after hq
  | next => exact False.elim hq
  | brk => exact False.elim hq
  | cont => exact False.elim hq
end
section
variable {X : Cx} {H : Hp} {f : Addr} {Q : VK} {W : Addr → Str → Prop}
end
end L2

end

section
namespace L2
open PySem PySem.Spec PyProof.Rows
abbrev saidTry (wn : Str) (i1 i2 : Nat) (p1 p2 p3 p4 p5 p6 p7 p8 p9 p10 p11 p12 : Pos) : Stmt :=
 .Try [.Return (some (.Tuple [.Constant (.str "told") i1 p1, .Call (.Name "_law_call" p2) [] [] p3] i2 p4)) p5]
  [.ExceptHandler (some (.Name "MainError" p6)) (some "_law_e") [.Return (some (.Call (.Name wn p7) [.Name "_law_e" p8] [] p9)) p10] p11] [] [] p12
section
variable {X : Cx} {H : Hp} {f M : Addr} {Q : VK} {W : Addr → Str → Prop} {s1 : Shared}
end
end L2

end

section
namespace L2
open PySem PySem.Spec PyProof.Rows
def codeO (c : Addr) (q : Str) : HO := .ext fun h => h.CodeRec (.ref c) q
def TabIn (H : Hp) (P : Addr) (q : Str) : Prop := ∃ ps : Array Value, H P = some (.tbl ps) ∧ TriplesOk ps.toList ∧ ∀ pos v, codeAmong pos ps.toList = some v → ∃ c, v = .ref c ∧ H c = some (codeO c q)
theorem triples_snoc {l : List Value} {a b : Nat} {c : Value} (h : TriplesOk l) : TriplesOk (l ++ [rawInt a, rawInt b, c]) := by
 fun_induction TriplesOk l with
 | case1 => exact trivial
 | case2 x t y t' z rest ih => exact ih h
 | case3 => exact h.elim
theorem among_snoc {l : List Value} {a b : Nat} {c : Value} {pos : Pos} {v : Value} (h : TriplesOk l) (e : codeAmong pos (l ++ [rawInt a, rawInt b, c]) = some v) : codeAmong pos l = some v ∨ v = c := by
 fun_induction TriplesOk l with
 | case1 =>
  have e' : codeAmong pos [rawInt a, rawInt b, c] = some v := e
  unfold codeAmong rawInt at e'
  dsimp only at e'
  split at e'
  ·exact .inr (Option.some.inj e').symm
  ·unfold codeAmong at e'; cases e'
 | case2 x t y t' z rest ih =>
  rw [List.cons_append, List.cons_append, List.cons_append] at e
  unfold codeAmong at e ⊢
  split at e
  ·rename_i q
   rw [if_pos q]
   exact .inl e
  ·rename_i q
   rw [if_neg q]
   exact ih h e
 | case3 => exact h.elim
section
variable {X : Cx} {pins : List (Addr × Obj)} {σ : St} {H : Hp} {s : Shared} {scope : Scope} {N' : List Str} {cap : List (Option Nat)} {P c : Addr} {ql : Str} {params : Arguments} {body : Expr} {pos : Pos}
theorem lam_make (I : Inv X pins σ H s) (hT : TabIn H P ql) (hcode : X.env.code = .ref c) (hC : PySem.W.CodeHd X.base c P) (hBu : X.base.BuiltinsAt X.mg P) (B : BlockScope X.env.scope X.N scope N' cap)
  (hq : X.env.qual ++ "<lambda>" = ql) (hdef : defaultsOf params X.env = ([], [])) {Q : Value → Shared → Prop} {E : Value → Shared → Prop}
  (h : ∀ s1 H1 f c' pm ctv, Inv X pins σ H1 s1 → TabIn H1 P ql → (∀ b o, H b = some o → b ≠ P → H1 b = some o) → H1 f = none → f ∉ frs X.stack →
   s1.heap.get? f = some (PySem.W.kla_obj "<lambda>" ql params body scope (clo X.env.cells scope.names []) pm c' ctv) → H1 c' = some (codeO c' ql) → Q (.ref f) s1) :
  wpAny (model X.prog X.w) X.A (eval (.Lambda params body scope pos) X.env) Q E s := by
 obtain ⟨ps, hP, ht, hcs⟩ := hT
 have hPo : s.heap.get? P = some (PySem.W.tabObj ps) := I.hok P _ hP
 have hcl : closureFor scope X.env = pure (clo X.env.cells scope.names []) := closureFor_eq fun y hy hf => I.ok.has y.1 (B.free y hy hf)
 have hg : s.heap.Ns mainGlobals X.mg := I.mod.glob.keeps I.bk
 have hC' := hC.keeps I.bk
 have hgP : mainGlobals ≠ P := fun q => by
  obtain ⟨o, es, ep, e, hd, _⟩ := hg
  rw [q, hPo] at e; cases e; cases hd
 obtain ⟨bm, ob, b1, b2, b3, b4, b5, b6⟩ := hBu
 have hBu' : s.heap.BuiltinsAt X.mg P := ⟨bm, ob, b1, b2, b3, b4, I.bk _ _ b5, b6⟩
 have frLt : ∀ b ∈ frs X.stack, b < s.heap.objs.size := fun b hb => by
  obtain ⟨_, o, ho, _⟩ := I.stack.mem hb
  exact Heap.lt_size ho
 refine PySem.W.kla_eval hdef ?_
 rw [hq]
 cases hf : codeAmong pos ps.toList with
 | some cv =>
  obtain ⟨c', rfl, hc'⟩ := hcs pos cv hf
  refine PySem.W.kla_makeFunctionHit hcl I.ok.glob hg hcode hC' hPo ht hf hBu' fun ctv h' tk hk hsz => ?_
  have hk2 : ∀ b o, s.heap.get? b = some o → (h'.push (PySem.W.kla_obj "<lambda>" ql params body scope (clo X.env.cells scope.names []) ((X.mg "__name__").getD .none) c' ctv)).get? b = some o := fun b o e => Heap.get?_push_of_some _ (hk b o e)
  refine h _ H h'.objs.size c' _ ctv (I.kept (t' := tk) hk2) ⟨ps, hP, ht, hcs⟩ (fun b o e _ => e) (I.hok.fresh hsz) (fun z => ?_) (Heap.get?_push_size _ rfl) hc'
  exact absurd (Nat.lt_of_lt_of_le (frLt _ z) hsz) (Nat.lt_irrefl _)
 | none =>
  refine PySem.W.kla_makeFunction hcl I.ok.glob hg hcode hC' hPo ht hf hgP hBu' fun c' ctv h' tk hx hge hlt hrec htb => ?_
  have szle : s.heap.objs.size ≤ h'.objs.size := Nat.le_of_lt (Nat.lt_of_le_of_lt hge hlt)
  have hx2 : ∀ b o, b ≠ P → s.heap.get? b = some o → (h'.push (PySem.W.kla_obj "<lambda>" ql params body scope (clo X.env.cells scope.names []) ((X.mg "__name__").getD .none) c' ctv)).get? b = some o := fun b o n e => Heap.get?_push_of_some _ (hx b o n e)
  have hPlt : P < s.heap.objs.size := Heap.lt_size hPo
  have cP : c' ≠ P := fun z => by rw [z] at hge; exact absurd (Nat.lt_of_lt_of_le hPlt hge) (Nat.lt_irrefl _)
  have hnc : H c' = none := I.hok.fresh hge
  have ne : ∀ b o, H b = some o → b ≠ c' := fun b o e z => by rw [z, hnc] at e; cases e
  let ps' : Array Value := ps ++ #[rawInt pos.line, rawInt pos.col, .ref c']
  let H1 : Hp := upd (upd H P (.tbl ps')) c' (codeO c' ql)
  have h1c : H1 c' = some (codeO c' ql) := upd_same
  have h1P : H1 P = some (.tbl ps') := by show upd _ c' _ P = _; rw [upd_ne (Ne.symm cP), upd_same]
  have h1o : ∀ b, b ≠ P → b ≠ c' → H1 b = H b := fun b n m => by show upd _ c' _ b = _; rw [upd_ne m, upd_ne n]
  have keepT : ∀ b o, H b = some o → b ≠ P → H1 b = some o := fun b o e n => by rw [h1o b n (ne b o e)]; exact e
  have un : Un (frs X.stack) [] H H1 s.heap (h'.push (PySem.W.kla_obj "<lambda>" ql params body scope (clo X.env.cells scope.names []) ((X.mg "__name__").getD .none) c' ctv)) := by
   have nP : ∀ b, H b = none → b ≠ P := fun b n z => by rw [z, hP] at n; cases n
   have nc2 : ∀ b o, s.heap.get? b = some o → b ≠ c' := fun b o e z => by have := Heap.lt_size e; rw [z] at this; exact absurd (Nat.lt_of_lt_of_le this hge) (Nat.lt_irrefl _)
   refine ⟨fun b o e n _ _ => hx2 b o (nP b n) e, fun b o e n _ _ => ⟨o.slots, hx2 b o (nP b n) e⟩, fun b o e n _ => by rw [h1o b (nP b n) (nc2 b o e)]; exact n, fun b o e _ => ?_, fun b xs q => keepT b _ q (fun z => by rw [z, hP] at q; cases q),
    fun b o' xs q => keepT b _ q (fun z => by rw [z, hP] at q; cases q), fun b qs q => ?_⟩
   ·by_cases z : b = P
    ·subst z; exact ⟨_, Heap.get?_push_of_some _ htb⟩
    ·exact ⟨o, hx2 b o z e⟩
   ·by_cases z : b = P
    ·subst z
     rw [hP] at q
     cases q
     exact ⟨_, h1P⟩
    ·exact ⟨#[], by rw [keepT b _ q z]; simp⟩
  have hok : HOk X.prog X.w H1 (h'.push (PySem.W.kla_obj "<lambda>" ql params body scope (clo X.env.cells scope.names []) ((X.mg "__name__").getD .none) c' ctv)) := fun b o e => by
   by_cases z : b = P
   ·subst z
    rw [h1P] at e
    cases e
    exact Heap.get?_push_of_some _ htb
   ·by_cases z2 : b = c'
    ·subst z2
     rw [h1c] at e
     cases e
     refine ⟨hrec.push _, ?_, fun g1 g2 x k => ?_⟩
     ·obtain ⟨c2, oc, vs, t, e2, hoc, _⟩ := hrec
      cases e2
      exact ⟨oc, Heap.get?_push_of_some _ hoc⟩
     ·obtain ⟨c2, oc, vs, t, e2, hoc, r⟩ := x
      cases e2
      exact ⟨_, oc, vs, t, rfl, k oc hoc, r⟩
    ·rw [h1o b z z2] at e
     refine (I.hok b o e).stay (fun d u hd q => hx2 d u (fun y => ?_) q) (fun d q => keepT d _ q fun y => by rw [y, hP] at q; cases q) fun d xs q => keepT d _ q fun y => by rw [y, hP] at q; cases q
     rcases hd with hd | hd
     ·exact z (hd ▸ y)
     ·rw [y, hP] at hd; cases hd
  have I1 : Inv X pins σ H1 { s with heap := h'.push (PySem.W.kla_obj "<lambda>" ql params body scope (clo X.env.cells scope.names []) ((X.mg "__name__").getD .none) c' ctv), toks := tk } :=
   I.call' (s' := { s with heap := h'.push (PySem.W.kla_obj "<lambda>" ql params body scope (clo X.env.cells scope.names []) ((X.mg "__name__").getD .none) c' ctv), toks := tk }) (ch := []) rfl un hok I.bare fun b z => absurd z (by simp)
  refine h _ H1 h'.objs.size c' _ ctv I1 ⟨ps', h1P, ?_, fun pos' v e => ?_⟩ keepT ?_ (fun z => ?_) (Heap.get?_push_size _ rfl) h1c
  ·show TriplesOk (ps ++ #[rawInt pos.line, rawInt pos.col, .ref c']).toList
   rw [Array.toList_append]
   exact triples_snoc ht
  ·have e' : codeAmong pos' (ps ++ #[rawInt pos.line, rawInt pos.col, .ref c']).toList = some v := e
   rw [Array.toList_append] at e'
   rcases among_snoc ht e' with q | q
   ·obtain ⟨c2, r1, r2⟩ := hcs pos' v q
    exact ⟨c2, r1, keepT c2 _ r2 fun y => by rw [y, hP] at r2; cases r2⟩
   ·exact ⟨c', q, h1c⟩
  ·rw [h1o _ (Nat.ne_of_gt (Nat.lt_of_lt_of_le hPlt szle)) (Nat.ne_of_gt hlt)]
   exact I.hok.fresh szle
  ·exact absurd (Nat.lt_of_lt_of_le (frLt _ z) szle) (Nat.lt_irrefl _)
end
end L2

end

section
namespace L2
open PySem PySem.Spec PyProof.Rows
section
variable {X : Cx} {scope : Scope} {N' : List Str} {cap : List (Option Nat)} {P c : Addr} {ql : Str} {params : Arguments} {body : Expr} {lpos p pos : Pos} {W : Addr → Str → Prop} {k : Nat} {te : XK → TE}
end
end L2

end

section
namespace L2
open PySem PySem.Spec PyProof.Rows
theorem eqGives_bool (a b : Bool) : MeetsSeq.EqGives (.bool a) (.bool b) (a == b) := fun prog w A E s Q h => PySem.SeqAt.EqAt.bool_bool a b prog w E Q h
def isTrueV : Value → Bool
 | .bool b => b
 | _ => false
theorem vals_bl : ∀ {bs : List Bool} {us : List Value}, Vals (bs.map V.bl) us → us = bs.map Value.bool
 | [], _, h => by cases h; rfl
 | b :: bs, _, h => by
  cases h with
  | cons r t =>
   have := vals_bl t
   subst this
   have r' : _ = Value.bool b := r
   rw [r']
   rfl
theorem eq_isTrue {bs : List Bool} : ∀ y, y ∈ (bs.map Value.bool).toArray → MeetsSeq.EqGives y (.bool true) (isTrueV y) := fun y hy => by
 have hy' : y ∈ bs.map Value.bool := by simpa using hy
 obtain ⟨b, _, rfl⟩ := List.mem_map.mp hy'
 have := eqGives_bool b true
 cases b <;> exact this
section
variable {X : Cx}
def rCountB : V → List V → Hp → VK → Prop := fun x vs H Q => ∃ (l : Addr) (bs : List Bool), x = .ref l ∧ vs = [.bl true] ∧ H l = some (.lst (bs.map V.bl)) ∧ Q (.int (bs.count true : Nat)) H
theorem mt_countB : MtR X "list.count" rCountB := by
 intro pins s σ H x vs v us Q I rx rv h
 obtain ⟨l, bs, rfl, rfl, hH, q⟩ := h
 cases rx
 obtain ⟨u, rfl, ru⟩ := rv.one
 have ru' : u = Value.bool true := ru
 subst ru'
 obtain ⟨its, r, pl, hz⟩ := I.list (SqL.of hH)
 have e := vals_bl r
 subst e
 obtain ⟨⟨cls, dd, data, sl⟩, ho, hc, n, hd⟩ := id pl.isList
 simp only at hc hd
 subst hc hd
 refine call_meets PySem.F.slot_list_count ⟨_, ho, rfl⟩ PySem.F.entry_list_count (PySem.F.args_list_count_2 _ _) (PySem.SeqAt.list_countAt l (bs.map Value.bool).toArray n dd sl (.bool true) isTrueV) ⟨ho, fun y hy => (eq_isTrue y hy).at _ _, ?_⟩
 have ec : (bs.map Value.bool).toArray.toList.countP isTrueV = bs.count true := by
  rw [show (bs.map Value.bool).toArray.toList = bs.map Value.bool from rfl, List.countP_map]
  unfold List.count
  congr 1
  funext b
  cases b <;> rfl
 rw [ec]
 exact ⟨.int (bs.count true : Nat), H, I.tok _, ⟨_, rfl⟩, q⟩
def rIndexB : V → List V → Hp → VK → Prop := fun x vs H Q => ∃ (l : Addr) (bs : List Bool) (j : Nat), x = .ref l ∧ vs = [.bl true] ∧ H l = some (.lst (bs.map V.bl)) ∧ bs.length ≤ 1000 ∧ bs[j]? = some true ∧ (∀ m, m < j → bs[m]? = some false) ∧ Q (.int (j : Nat)) H
theorem mt_indexB : MtR X "list.index" rIndexB := by
 intro pins s σ H x vs v us Q I rx rv h
 obtain ⟨l, bs, j, rfl, rfl, hH, hs, hj, hno, q⟩ := h
 cases rx
 obtain ⟨u, rfl, ru⟩ := rv.one
 have ru' : u = Value.bool true := ru
 subst ru'
 obtain ⟨_, its, n, r, ho⟩ := (show ObjOk X.prog X.w H s.heap l (.lst (bs.map V.bl)) from I.hok l _ hH)
 have e := vals_bl r
 subst e
 have hjl : j < bs.length := (List.getElem?_eq_some_iff.mp hj).1
 have hbj : bs[j] = true := (List.getElem?_eq_some_iff.mp hj).2
 refine call_meets PySem.F.slot_list_index ⟨_, ho, rfl⟩ PySem.F.entry_list_index (PySem.F.args_list_index_2 _ _) (MeetsSeq.list_index l (bs.map Value.bool).toArray n (.bool true) isTrueV eq_isTrue j (by simpa using hjl) (by omega) (by simp [isTrueV, hbj]) (fun m hm hlt => ?_)) ⟨ho, ?_⟩
 ·have := hno m hlt
  have hbm : bs[m]'(by simpa using hm) = false := (List.getElem?_eq_some_iff.mp this).2
  simp [isTrueV, hbm]
 ·exact ⟨.int (j : Nat), H, I.tok _, ⟨_, rfl⟩, q⟩
end
def theWords : List Str := ["plant", "story", "firing", "hour", "boiler", "prices", "way", "set", "tanks", "pump", "feeding", "readings", "start", "shifts", "book", "amount", "deed", "line", "text"]
def wordOk (K : PySem.W.Frag) (M : Addr) (ds : List Addr) (i : Nat) : Bool :=
 (PySem.W.findIn K (.ref (ds.getD i 0)) "__getattribute__" == some (some (.builtin "BaseException.__getattribute__"))) && (PySem.W.findIn K (.ref (ds.getD i 0)) "__getattr__" == some none) && (PySem.W.clsIn K (ds.getD i 0)).isSome &&
 (PySem.W.findIn K (.ref (ds.getD i 0)) "__class__" == some (some (.builtin "object.__class__"))) && (PySem.W.specialIn K (.builtin "object.__class__") "__get__" == some (some (.builtin "getset_descriptor.__get__"))) && (PySem.W.takesIn K (.builtin "object.__class__") == some true) &&
 (PySem.W.mroIn K (ds.getD i 0) (.type "object") == some true) && (PySem.W.mroIn K (ds.getD i 0) (.type "BaseException") == some true) && (PySem.W.mroIn K (ds.getD i 0) (.ref M) == some true) &&
 ((List.range 19).all fun j => PySem.W.kitOne K (.ref (ds.getD i 0)) (.ref (ds.getD j 0)) == some (j == i)) && (PySem.W.kitOne K (.ref (ds.getD i 0)) (.type "ValueError") == some true)
structure Wd (K : PySem.W.Frag) (M : Addr) (ds : List Addr) (C : Addr) (word : Str) : Prop where
 ex : ∃ i, i < 19 ∧ C = ds.getD i 0 ∧ theWords[i]? = some word ∧ wordOk K M ds i = true
section
variable {K : PySem.W.Frag} {M : Addr} {ds : List Addr} {i : Nat}
theorem wordOk_all (h : wordOk K M ds i = true) : ExcCls K (ds.getD i 0) ∧ PySem.W.mroIn K (ds.getD i 0) (.ref M) = some true ∧ (∀ j, j < 19 → PySem.W.kitOne K (.ref (ds.getD i 0)) (.ref (ds.getD j 0)) = some (j == i)) ∧ PySem.W.kitOne K (.ref (ds.getD i 0)) (.type "ValueError") = some true := by
 unfold wordOk at h
 simp only [Bool.and_eq_true, beq_iff_eq] at h
 obtain ⟨⟨⟨⟨⟨⟨⟨⟨⟨⟨h1, h2⟩, h3⟩, h4⟩, h5⟩, h6⟩, h7⟩, h8⟩, h9⟩, h10⟩, h11⟩ := h
 refine ⟨⟨h1, h2, h3, h4, h5, h6, h7, h8⟩, h9, fun j hj => ?_, h11⟩
 have := List.all_eq_true.mp h10 j (List.mem_range.mpr hj)
 exact beq_iff_eq.mp this
end
end L2

end

section
namespace L2
open PySem PySem.Spec PyProof.Rows
theorem law_callT {P : Program} {w : World} {K : PySem.W.Frag} {mg mb : Str → Option Value} {CX : CXT} {k : Nat} {fa a c T : Addr} {fd : FuncData} {x : Str} {sp : Sp} {s₁ : Shared} {vs : List Value} {ns : List Int}
  (KX : K.In s₁.heap) (hns : s₁.heap.Ns mainGlobals mg) (hb : s₁.heap.Ns builtinsNs mb) (hbb : ∀ x : Str, x ≠ "__name__" → mb x = bootBuiltins x) (hlim : s₁.heap.NoLimit) (hg : s₁.gens = #[])
  (ha : s₁.heap.get? a = some { cls := .type "list", data := .seq vs.toArray }) (hi : IntsAre vs ns) (hl : ns.length ≤ sizeLine) (hr : Room k callerA)
  (t1 : PySem.W.CodeHd s₁.heap c T) (t2 : s₁.heap.get? T = some (PySem.W.tabObj #[])) (t3 : PySem.W.noTabs K = true) (t4 : s₁.heap.BuiltinsAt mg T)
  (F : ∀ base : Heap, K.In base → base.Ns mainGlobals mg → PySem.W.CodeHd base c T → base.BuiltinsAt mg T → FnOk P w K mg base CX k fa fd [x] sp) (hbind : ∀ (s : Shared) (u : Value), BindsTo s fd ⟨[u], []⟩ [(x, u)])
  (hsp : ∀ H : Hp, H T = some (.tbl #[]) → SqL K H a (ns.map V.int) → sp [.ref a] H (fun v _ => v = .bl true) fun _ _ _ => False)
  (hCX : ∀ H e s', CX [] H s₁ (fun _ _ _ => False) e s' → False) :
  codeAny (model P w) callerA (.call (.ref fa) ⟨[.ref a], []⟩) (fun r s' => r = .ok (.ret (.bool true)) ∧ OldK s₁.heap s'.heap ∧ s'.os = s₁.os ∧ AllBare s'.gens) s₁ := by
 have rv := vals_ints hi
 have lenV := hi.length
 have aT : a ≠ T := fun z => by rw [z, t2] at ha; cases ha
 have kT : K.lookup T = none := by
  cases q : K.lookup T with
  | none => rfl
  | some o =>
   have e := KX T o q
   rw [t2] at e
   cases e
   have h2 := List.all_eq_true.mp t3 _ (PySem.W.mem_of_lookupK q)
   exact absurd (show false = true from h2) Bool.false_ne_true
 have hTs : T ≠ cStatics := fun z => by
  obtain ⟨mc, ⟨o, es, ep, e, hd, _⟩, _⟩ := hlim
  rw [← z, t2] at e; cases e; cases hd
 have core : ∀ H : Hp, H T = some (.tbl #[]) → (∀ b, b ≠ T → H b = none ∨ ∃ o xs, H b = some (.frz o (.lst xs))) → SqL K H a (ns.map V.int) → HOk P w H s₁.heap → (∀ b, H b ≠ none → b = a ∨ b = T) → (H a ≠ none → K.lookup a = none) →
   codeAny (model P w) callerA (.call (.ref fa) ⟨[.ref a], []⟩) (fun r s' => r = .ok (.ret (.bool true)) ∧ OldK s₁.heap s'.heap ∧ s'.os = s₁.os ∧ AllBare s'.gens) s₁ := by
  intro H hHT hO hS hok hA hK
  have base_of : ∀ {b : Addr} {o : Obj}, s₁.heap.get? b = some o → H b = none → (hidT s₁.heap H).get? b = some o := fun e n => hidT_get e n
  have noA : ∀ {b : Addr} {o : Obj}, s₁.heap.get? b = some o → (∀ xs n, o.data ≠ .seq xs n) → o.cls ≠ .none → H b = none := fun {b o} e d1 d2 => by
   cases q : H b with
   | none => rfl
   | some u =>
    rcases hA b (by rw [q]; simp) with e' | e'
    ·subst e'
     rw [ha] at e; cases e
     exact absurd rfl (d1 _ _)
    ·subst e'
     rw [t2] at e; cases e
     exact absurd rfl d2
  have noD : ∀ {b : Addr} {o : Obj} {es : Array DictEntry} {ep : Nat}, s₁.heap.get? b = some o → o.data = .dict es ep → H b = none := fun {b o es ep} e d => by
   cases q : H b with
   | none => rfl
   | some u =>
    rcases hA b (by rw [q]; simp) with e' | e'
    ·subst e'
     rw [ha] at e; cases e
     have d' : Data.seq vs.toArray _ = Data.dict es ep := d
     cases d'
    ·subst e'
     rw [t2] at e; cases e
     have d' : Data.fields #[] = Data.dict es ep := d
     cases d'
  have nsK : ∀ {b : Addr} {m : Str → Option Value}, s₁.heap.Ns b m → (hidT s₁.heap H).Ns b m := fun {b m} ⟨o, es, ep, e, d, r⟩ => ⟨o, es, ep, base_of e (noD e d), d, r⟩
  have hKb : K.In (hidT s₁.heap H) := fun b o e => base_of (KX b o e) (by
   cases q : H b with
   | none => rfl
   | some u =>
    rcases hA b (by rw [q]; simp) with e' | e'
    ·subst e'
     rw [hK (by rw [q]; simp)] at e; cases e
    ·subst e'
     rw [kT] at e; cases e)
  have hM : Mod K mg (hidT s₁.heap H) := ⟨hKb, nsK hns, ⟨mb, nsK hb, hbb⟩, let ⟨mc, h1, h2⟩ := hlim; ⟨mc, nsK h1, h2⟩⟩
  have e0 : Env0 P w K mg (hidT s₁.heap H) callerA [] s₁ H := ⟨rfl, hM, fun b o e => of_hidT e, Nat.le_of_eq (hidT_size _ _), trivial, fun b hb => absurd (show b ∈ ([] : List Addr) from hb) (by simp), hok, .of_eq hg⟩
  have t1' : PySem.W.CodeHd (hidT s₁.heap H) c T := by
   obtain ⟨o, vs', file, tf, flags, tg, inF, text, tt, e1, e2, e3, r⟩ := t1
   exact ⟨o, vs', file, tf, flags, tg, inF, text, tt, base_of e1 (noA e1 (fun xs n q => by rw [e3] at q; cases q) (fun q => by rw [e2] at q; cases q)), e2, e3, r⟩
  have t4' : (hidT s₁.heap H).BuiltinsAt mg T := by
   obtain ⟨bm, ob, b1, b2, b3, b4, b5, b6, b7, b8⟩ := t4
   exact ⟨bm, ob, b1, b2, b3, b4, base_of b5 (noA b5 (fun xs n q => by rw [b8] at q; cases q) (fun q => by rw [b6] at q; cases q)), b6, b7, b8⟩
  refine codeAny_mono ((F _ hKb (nsK hns) t1' t4').run callerA [] s₁ H ⟨[.ref a], []⟩ [.ref a] [.ref a] _ _ hr e0 (hbind s₁ (.ref a)) (.cons rfl .nil) (hsp H hHT hS)) fun r s' h => ?_
  cases r with
  | error e => exact (hCX H e s' h).elim
  | ok fl =>
   cases fl with
   | next => exact False.elim h
   | brk => exact False.elim h
   | cont => exact False.elim h
   | ret u =>
    obtain ⟨v, H', os, bare, un, hok', r', q⟩ := h
    have q' : v = .bl true := q
    subst q'
    obtain rfl : u = Value.bool true := r'
    have keepO : ∀ b o, b ≠ T → s₁.heap.get? b = some o → s'.heap.get? b = some o := fun b o n e => by
     cases q : H b with
     | none => exact un.keep b o e q (by intro z; exact absurd (show b ∈ ([] : List Addr) from z) (by simp)) (by simp)
     | some u =>
      rcases hO b n with z | ⟨ob, xs, z⟩
      ·rw [q] at z; cases z
      ·have z2 := un.frzs b ob _ z
       obtain ⟨e1, _⟩ := hok b _ z
       obtain ⟨e2, _⟩ := hok' b _ z2
       rw [e] at e1; cases e1
       exact e2
    obtain ⟨more, eT⟩ := un.tbls T #[] hHT
    have oT : s'.heap.get? T = some (PySem.W.tabObj (#[] ++ more)) := hok' T _ eT
    have cT : PySem.W.CodeHd s'.heap c T := by
     obtain ⟨o, vs', file, tf, flags, tg, inF, text, tt, e1, e2, e3, e4, e5, e6, e7, e8, e9, e10⟩ := t1
     exact ⟨o, vs', file, tf, flags, tg, inF, text, tt, keepO c o e10 e1, e2, e3, e4, e5, e6, e7, e8, e9, e10⟩
    exact ⟨rfl, OldK.step_table (OldK.refl _) (t1.tab t2) (t1.tab t2) (cT.tab oT) (fun b o n e => keepO b o n e) hTs, os, bare⟩
 cases hk : K.lookup a with
 | some o =>
  have e := KX a o hk
  rw [ha] at e
  cases e
  refine core (fun b => if b = T then some (.tbl #[]) else none) (if_pos rfl) (fun b n => .inl (if_neg n)) (.inr ⟨_, vs.toArray, _, hk, rfl, rfl, rfl, by rw [List.size_toArray, lenV]; exact hl, by simpa using rv⟩) (fun b u z => ?_) (fun b z => ?_) fun z => absurd (if_neg aT) z
  ·by_cases hb : b = T
   ·have z' := (if_pos hb).symm.trans z
    cases z'
    subst hb
    exact t2
   ·have z' := (if_neg hb).symm.trans z
    cases z'
  ·by_cases hb : b = T
   ·exact .inr hb
   ·exact absurd (if_neg hb) z
 | none =>
  have ifa : (if a = T then some (HO.tbl #[]) else if a = a then some (HO.frz { cls := .type "list", data := .seq vs.toArray } (.lst (ns.map V.int))) else none) = some (HO.frz { cls := .type "list", data := .seq vs.toArray } (.lst (ns.map V.int))) := by rw [if_neg aT, if_pos rfl]
  refine core (fun b => if b = T then some (.tbl #[]) else if b = a then some (.frz { cls := .type "list", data := .seq vs.toArray } (.lst (ns.map V.int))) else none) (if_pos rfl) (fun b n => ?_) (.inl (.inr ⟨{ cls := .type "list", data := .seq vs.toArray }, ifa⟩)) (fun b u z => ?_) (fun b z => ?_) fun _ => hk
  ·by_cases hb : b = a
   ·exact .inr ⟨_, _, by rw [if_neg n, if_pos hb]⟩
   ·exact .inl (by rw [if_neg n, if_neg hb])
  ·dsimp only at z
   by_cases hb : b = T
   ·rw [if_pos hb] at z
    cases z
    subst hb
    exact t2
   ·rw [if_neg hb] at z
    by_cases hb : b = a
    ·rw [if_pos hb] at z
     cases z
     subst hb
     exact ⟨ha, by rw [List.length_map]; exact hl, vs, _, rv, ha⟩
    ·rw [if_neg hb] at z; cases z
  ·by_cases hb : b = T
   ·exact .inr hb
   ·by_cases hb2 : b = a
    ·exact .inl hb2
    ·exact absurd (by show (if b = T then _ else _) = none; rw [if_neg hb, if_neg hb2]) z
theorem walk_ofT {l : PySem.W.OpenLaw} {n k : Nat} {q : Program} {loose : List Str} {XP : (Str → Option Value) → Heap → Prop} {YP : World → Heap → Prop} {d dT : DefRec} {K : Params → PySem.W.Frag} {CX : World → CXT} {sp : PySem.W.Frag → Addr → Sp} {x xT : Str}
  (hn : l.most = some n) (hn2 : n ≤ sizeLine) (hdf : d.params.defaults = []) (hr : Room k callerA)
  (hY : ∀ (w : World) (h : Heap), YP w h → (K w.params).In h) (hrec : (recsOf q).find? (fun e => e.name == xT) = some dT) (htab : ∀ w : World, (PySem.W.tabIn (K w.params) xT).isSome = true) (hnt : ∀ w : World, PySem.W.noTabs (K w.params) = true)
  (F : ∀ (w : World) (mg : Str → Option Value) (fa : Addr) (h : Heap) (c T : Addr), (K w.params).In h → h.Ns mainGlobals mg → mg d.name = some (.ref fa) → PySem.W.tabIn (K w.params) xT = some (c, T) →
   ∃ fd : FuncData, (∀ (s : Shared) (u : Value), BindsTo s fd ⟨[u], []⟩ [(x, u)]) ∧
    ∀ base : Heap, (K w.params).In base → base.Ns mainGlobals mg → PySem.W.CodeHd base c T → base.BuiltinsAt mg T → FnOk l.prog w (K w.params) mg base (CX w) k fa fd [x] (sp (K w.params) T))
  (hsp : ∀ (K : PySem.W.Frag) (H : Hp) (a T : Addr) (ns : List Int), ns.length ≤ n → H T = some (.tbl #[]) → SqL K H a (ns.map V.int) → sp K T [.ref a] H (fun v _ => v = .bl true) fun _ _ _ => False)
  (hCX : ∀ (w : World) (H : Hp) (s : Shared) (e : Value) (s' : Shared), CX w [] H s (fun _ _ _ => False) e s' → False) :
  PySem.W.WalkO q loose XP YP l.row.toRowW d [] (fun f vs => PySem.call f vs) := by
 refine Att.attach_call hn hdf fun w s₀ s₁ mg mb fa o pm cd doc a vs ns G Y ho hd hcd hmg hobj hints hlen hg => ?_
 have KX := hY w _ Y
 obtain ⟨⟨c, T⟩, ht⟩ := Option.isSome_iff_exists.mp (htab w)
 obtain ⟨t1, t2⟩ := PySem.W.tab_of G.T KX hrec ht
 obtain ⟨fd, hb, hF⟩ := F w mg fa _ c T KX G.T.g hmg ht
 have t4 : s₁.heap.BuiltinsAt mg T := by
  obtain ⟨bm, ob, b1, b2, b3, b4, b5, b6⟩ := G.T.bmain
  refine ⟨bm, ob, b1, b2, fun z => ?_, fun z => ?_, b3, b4, b5, b6⟩
  ·obtain ⟨o, es, ep, e, hd', _⟩ := G.T.g
   rw [z, e] at b3; cases b3; rw [hd'] at b6; cases b6
  ·rw [z, t2] at b3; cases b3; cases b4
 exact law_callT KX G.T.g G.T.b G.T.builtins G.T.nolimit hg hobj hints (Nat.le_trans hlen hn2) hr t1 t2 (hnt w) t4 hF hb (fun H h1 h2 => hsp (K w.params) H a T ns hlen h1 h2) fun H e s' => hCX w H s₁ e s'
end L2

end

section
namespace L2
open PySem PySem.Spec PyProof.Rows
def kindWords : List Str := ["plant", "story", "firing", "hour", "boiler", "prices", "way", "set", "tanks", "pump", "feeding", "readings", "start", "shifts", "book", "amount", "no deed", "line", "text"]
structure WdK (K : PySem.W.Frag) (M : Addr) (ds : List Addr) (C : Addr) (word : Str) : Prop where
 ex : ∃ i, i < 18 ∧ C = ds.getD i 0 ∧ kindWords[i]? = some word ∧ wordOk K M ds i = true
section
variable {X : Cx}
end
end L2

end

section
namespace L2
open PySem PySem.Spec PyProof.Rows PySem.W Builtin
abbrev rawObj (C : Addr) (dx : Option Addr) (t : Addr) : Obj := { cls := .ref C, dict := dx, data := .fields #[.ref t, .none, .none, .none, .bool false, .none] }
def excInI (K : Frag) (C fI : Addr) : Bool := keepIn K (.ref C) && findIn K (.ref C) "__init__" == some (some (.ref fI)) && (K.lookup C).any fun o => o.cls == .type "type" && match o.data, o.slots with
 | .cls cd, ⟨[_, _, _, _, k, _]⟩ => k == some (.builtin "ValueError.__new__") && (cd.mro == .ref C :: cd.mro.tail && (!cd.hasDel && tailIn K bmV cd.mro.tail))
 | _, _ => false
def XLies (K : Frag) (h : Heap) (C fI : Addr) : Prop := K.In h ∧ findIn K (.ref C) "__init__" = some (some (.ref fI)) ∧
 ∃ bm N nm qn bs hd sn sub ab col dd k0 k1 k2 k3 k5, h.get? C = some (excClassObj nm qn C N bs bm hd sn sub ab col dd k0 k1 k2 k3 k5 "ValueError.__new__") ∧ OwnTail h bmV bm
theorem exc_keep {K : Frag} {C fI : Addr} (q : excInI K C fI = true) : keepIn K (.ref C) = true := by
 unfold excInI at q
 exact (Bool.and_eq_true_iff.mp (Bool.and_eq_true_iff.mp q).1).1
theorem lies_of {K : Frag} {h : Heap} {C fI : Addr} (X : K.In h) (q : excInI K C fI = true) : XLies K h C fI := by
 unfold excInI at q
 obtain ⟨q, r⟩ := Bool.and_eq_true_iff.mp q
 refine ⟨X, eq_of_beq (Bool.and_eq_true_iff.mp q).2, ?_⟩
 obtain ⟨o, l, r0⟩ := any_some r
 obtain ⟨c, r5⟩ := Bool.and_eq_true_iff.mp r0
 have g := X _ _ l
 rcases o with ⟨oc, dd, od, sl⟩
 obtain rfl : oc = .type "type" := eq_of_beq c
 clear r0 c l
 dsimp only at r5
 split at r5
 ·rename_i cd k0 k1 k2 k3 k k5
  obtain ⟨r1, r6⟩ := Bool.and_eq_true_iff.mp r5
  obtain ⟨r2, r7⟩ := Bool.and_eq_true_iff.mp r6
  obtain ⟨r3, r4⟩ := Bool.and_eq_true_iff.mp r7
  rcases cd with ⟨nm, bs, mro, N, qn, hd, sn, sub, ab, col, del⟩
  obtain rfl := eq_of_beq r1
  obtain rfl : del = false := by cases del <;> first | rfl | cases r3
  have e2 : mro = .ref C :: mro.tail := eq_of_beq r2
  have T := tail_of_in X r4
  dsimp only at T
  rw [e2] at g
  exact ⟨mro.tail, N, nm, qn, bs, hd, sn, sub, ab, col, dd, k0, k1, k2, k3, k5, g, T⟩
 ·cases r5
structure XSeen (M : Model) (h : Heap) (C fI : Addr) : Prop where
 typ : Looks M h (typeOf (.ref C)) (.type "type")
 mro : ∃ l, Looks M h (mroOf (.ref C)) (.ref C :: l)
 made : Looks M h (Bind.madeBy (.ref C)) (some "ValueError.__new__")
 self : Looks M h (isSubtype (.ref C) (.ref C)) true
 exc : Looks M h (isSubtype (.ref C) (.type "BaseException")) true
 init : Looks M h (typeLookup (.ref C) "__init__") (some (.ref fI))
theorem XLies.keeps {K : Frag} {h h' : Heap} {C fI : Addr} (c : XLies K h C fI) (k : ∀ b o, h.get? b = some o → h'.get? b = some o) : XLies K h' C fI := by
 obtain ⟨X, e, bm, N, nm, qn, bs, hd, sn, sub, ab, col, dd, k0, k1, k2, k3, k5, hC, T⟩ := c
 exact ⟨fun a o l => k _ _ (X a o l), e, bm, N, nm, qn, bs, hd, sn, sub, ab, col, dd, k0, k1, k2, k3, k5, k _ _ hC, T.keeps k⟩
theorem XLies.seen {K : Frag} {h : Heap} {C fI : Addr} (c : XLies K h C fI) (M : Model) : XSeen M h C fI := by
 obtain ⟨X, e, bm, N, nm, qn, bs, hd, sn, sub, ab, col, dd, k0, k1, k2, k3, k5, hC, T⟩ := c
 constructor
 ·exact (Looks.ld hC).andThen .now
 ·exact ⟨bm, fun _ _ _ ⟨_, _, _, _, _⟩ k q => wpAny_mroOf_exc (k _ _ hC) q⟩
 ·exact fun _ _ _ ⟨_, _, _, _, _⟩ k q => wpAny_madeBy_exc (k _ _ hC) q
 ·exact fun _ _ _ ⟨_, _, _, _, _⟩ k q => wpAny_isSubtype_exc (k _ _ hC) (by rw [List.contains_cons, beq_self_eq_true, Bool.true_or]; exact q)
 ·exact fun _ _ _ ⟨_, _, _, _, _⟩ k q => wpAny_isSubtype_exc (k _ _ hC) (by rw [show (Value.ref C :: bm).contains (.type "BaseException") = true from by rw [List.contains_cons, T.hasType PySem.F.excBase_ValueError.hasBase]; exact Bool.or_true _]; exact q)
 ·exact looks_findIn X e
section
variable {M : Model} {A : Around} {E : Value → Shared → Prop} {s : Shared} {env : Env}
def XRaw (K : Frag) (E : Value → Shared → Prop) (v : Value) (s : Shared) : Prop := ∃ e C fI dx t, v = .ref e ∧ XLies K s.heap C fI ∧ s.heap.get? e = some (rawObj C dx t) ∧ E (.ref e) s
theorem raise_raw {K : Frag} {e : Expr} {pos : Pos} {Q : Flow → Shared → Prop} (hh : A.handled = none) (h : wpAny M A (eval e env) (XRaw K E) E s) : wpAny M A (exec (.Raise (some e) none pos) env) Q E s := by
 rw [arm_exec_Raise]
 refine wpAny_bind (wpAny_standAt (wpAny_bind (wpAny_bind (thn h fun v s1 z => wpAny_bind (wpAny_standAt (wpAny_pure ?_))))))
 obtain ⟨x, C, fI, dx, t, rfl, c, hx, hE⟩ := z
 have S := c.seen M
 obtain ⟨hp, g, d, tk, os⟩ := s1
 have cls : Looks M hp (typeOf (.ref x)) (.ref C) := (Looks.ld hx).andThen .now
 have one : Looks M hp (isType (.ref x)) false := (Looks.ld hx).andThen .now
 have inst : Looks M hp (isInstance (.ref x) (.type "BaseException")) true := cls.andThen S.exc
 have bare : Looks M hp (field (.ref x) 1) .none := (Looks.ld hx).andThen .now
 have typ := S.typ
 have taken : ∀ m, Looks M hp (excFromValue (.ref x) m) (.ref x) := fun m => (one.andThen .now : Looks M hp (isExcClass (.ref x)) false).andThen (inst.andThen .now)
 have held : Looks M hp (raisedInstance (.ref x)) (.ref x) := cls.andThen (typ.andThen .now)
 have flight : Looks M hp (setFlight (.ref x) none) () := bare.andThen .now
 show wpAny M A (pure none >>= _) Q E _
 refine wpAny_bind (wpAny_pure (wpAny_bind (wpAny_holding ((taken _).at (wpAny_bind (one.at (wpAny_bind (held.at (wpAny_bind (flight.at ?_))))))))))
 exact wpAny_raiseNew_none hh hE
end
section
variable {prog : Program} {w : World} {A : Around} {E : Value → Shared → Prop} {h : Heap} {g : Array GenState} {d : Drawn} {t : Nat} {os : OsState} {K : Frag} {C fI : Addr} {rest : List Value}
theorem XLies.new {R : Result → Shared → Prop} (c : XLies K h C fI) (hl : rest.length ≤ sizeLine)
  (q : ∀ h' e t0, (∀ b o, h.get? b = some o → h'.get? b = some o) → h.get? e = none → h'.get? e = some (rawObj C none t0) → R (.ok (.ret (.ref e))) ⟨h', g, d, t, os⟩) :
  codeAny (model prog w) A (.call (.builtin "ValueError.__new__") ⟨.ref C :: rest, []⟩) R ⟨h, g, d, t, os⟩ := by
 obtain ⟨-, -, bm, N, nm, qn, bs, hd, sn, sub, ab, col, dd, k0, k1, k2, k3, k5, hC, T⟩ := c
 have B := PySem.F.excBase_ValueError
 exact codeAny_call_builtin_code (Code.quiet_builtin _ B.quiet) (wpAny_check_new_subT B T hC (codeAny_exc_new_subT B T hC
  (q _ _ h.objs.size (fun b o z => Heap.get?_push_of_some _ (Heap.get?_push_of_some _ z)) (Heap.get?_none_of_le (Nat.le_succ _)) (by heap_get)) hl))
theorem XLies.call {Q : Value → Shared → Prop} (c : XLies K h C fI) (hf : ∃ o, h.get? fI = some o ∧ o.cls = .type "function") (hl : rest.length ≤ sizeLine)
  (q : ∀ h' e t0, (∀ b o, h.get? b = some o → h'.get? b = some o) → h.get? e = none → h'.get? e = some (rawObj C none t0) →
   wpAny (model prog w) (A.under (.builtin "type.__call__" ⟨.ref C :: rest, []⟩)) (PySem.call (.ref fI) (.ref e :: rest)) (fun r s' => r = .none ∧ Q (.ref e) s') E ⟨h', g, d, t, os⟩) :
  wpAny (model prog w) A (PySem.call (.ref C) rest) Q E ⟨h, g, d, t, os⟩ := by
 have S := c.seen (model prog w)
 have made := S.made
 obtain ⟨l, mro⟩ := S.mro
 have spec : Looks (model prog w) h (specialOf (.ref C) "__call__") (some (.builtin "type.__call__")) := S.typ.andThen (.of_pure tc_lookup)
 obtain ⟨-, -, bm, N, nm, qn, bs, hd, sn, sub, ab, col, dd, k0, k1, k2, k3, k5, hC, -⟩ := id c
 refine wpAny_call (codeAny_of_tree (nd_load hC ?_))
 refine wpAny_bind (wpAny_pure ?_)
 show wpAny _ _ (specialOf (.ref C) "__call__" >>= _) _ _ _
 refine wpAny_bind (spec.at (wpAny_bind ((Looks.of_pure (tc_bind _)).at (wpAny_bind (wpAny_pure (wpAny_pure ⟨rfl, ?_⟩))))))
 refine codeAny_call_builtin_at (Code.quiet_builtin _ (by decide +kernel)) entry_typeCall (wpAny_check_type_call_sub hC ?_)
 show wpAny _ _ (mroOf (.ref C) >>= _) _ _ _
 refine wpAny_bind (mro.at ?_)
 show wpAny _ _ (Bind.madeBy (.ref C) >>= _) _ _ _
 refine wpAny_bind (made.at (wpAny_bind (wpAny_pure (wpAny_bind (wpAny_holding (wpAny_call (c.new hl fun h' e t0 k fr he => ?_)))))))
 have S' := (c.keeps k).seen (model prog w)
 have cls : Looks (model prog w) h' (typeOf (.ref e)) (.ref C) := (Looks.ld he).andThen .now
 obtain ⟨oI, hI, cI⟩ := hf
 have fn : Looks (model prog w) h' (typeOf (.ref fI)) (.type "function") := by rw [← cI]; exact (Looks.ld (k _ _ hI)).andThen .now
 have bound : Looks (model prog w) h' (bindSpecial (.ref fI) (.ref e)) (.ref fI, [.ref e]) := by
  unfold bindSpecial
  exact fn.andThen (.of_pure (by kernel_rfl))
 refine wpAny_bind ((cls.andThen S'.self : Looks _ h' (isInstance (.ref e) (.ref C)) true).at ?_)
 show wpAny _ _ (holding _ (callSpecial? _ _ _ _) >>= _) _ _ _
 refine wpAny_bind (wpAny_holding (wpAny_bind ((cls.andThen S'.init : Looks _ h' (specialOf (.ref e) "__init__") _).at (wpAny_holding (wpAny_bind (bound.at (wpAny_bind (thn (q h' e t0 k fr he) fun r s1 z => ?_))))))))
 obtain ⟨rfl, z⟩ := z
 exact wpAny_pure (wpAny_pure z)
end
end L2

end

section
namespace L2
open PySem PySem.Spec PyProof.Rows
def GotL (H : Hp) (xs : List V) (Q : VK) : Prop := ∀ r H', Same H H' → H r = none → H' r = some (.lst xs) → Q (.ref r) H'
theorem GotL.at {H : Hp} {xs : List V} {Q : VK} (q : GotL H xs Q) : ∀ p, H p = none → Q (.ref p) (upd H p (.lst xs)) := fun p hp => q p _ (Same.new hp) hp upd_same
section
variable {X : Cx} {es : List Expr} {t : TA} {pos : Pos}
def cTupG (t : TA) : TE := fun σ H Q => t σ H fun xs H1 => match Nat.ble xs.length 64 with | true => Got H1 xs Q | false => False
def cLstG (t : TA) : TE := fun σ H Q => t σ H fun xs H1 => match Nat.ble xs.length 64 with | true => GotL H1 xs Q | false => False
theorem c_tupG {x1} (h : PA X es t) : PE X (.Tuple es x1 pos) (cTupG t) := by
 intro pins s σ H Q I hq
 refine wpAny_Tuple_spliced (thn (h pos pins s σ H _ I hq) fun us s1 ⟨xs, H1, I1, r, q⟩ => ?_)
 dsimp only at q
 split at q
 ·rename_i z
  refine ⟨by rw [← r.length]; exact few z, ?_⟩
  have hf : H1 s1.heap.objs.size = none := I1.hok.fresh (Nat.le_refl _)
  refine ⟨.ref s1.heap.objs.size, upd H1 s1.heap.objs.size (.tup xs), I1.laid (t' := s1.toks) (fun b u e => Heap.get?_push_of_some _ e) (Nat.le_refl _) ?_, rfl, q _ _ (Same.new hf) upd_same⟩
  exact ⟨few z, us, r, ⟨_, Heap.get?_push_size _ rfl, rfl, _, rfl⟩⟩
 ·exact q.elim
theorem c_lstG (h : PA X es t) : PE X (.List es pos) (cLstG t) := by
 intro pins s σ H Q I hq
 refine wpAny_List_spliced (thn (h pos pins s σ H _ I hq) fun us s1 ⟨xs, H1, I1, r, q⟩ => ?_)
 dsimp only at q
 split at q
 ·rename_i z
  refine ⟨by rw [← r.length]; exact few z, ?_⟩
  have hf : H1 s1.heap.objs.size = none := I1.hok.fresh (Nat.le_refl _)
  refine ⟨.ref s1.heap.objs.size, upd H1 s1.heap.objs.size (.lst xs), I1.laid (t' := s1.toks) (fun b u e => Heap.get?_push_of_some _ e) (Nat.le_refl _) ?_, rfl, q.at _ hf⟩
  exact ⟨few z, us, 0, r, Heap.get?_push_size _ rfl⟩
 ·exact q.elim
def rCatG : R2 := fun x y H Q => ∃ l b xs zs, x = .ref l ∧ y = .ref b ∧ H l = some (.lst xs) ∧ H b = some (.lst zs) ∧ xs.length + zs.length ≤ sizeLine ∧ GotL H (xs ++ zs) Q
theorem op_catG : OpR X (binaryOp .Add) rCatG := by
 intro pins s σ H x y v u Q I rx ry h
 obtain ⟨l, b, xs, zs, e1, e2, h1, h2, hz, q⟩ := h
 exact op_cat pins s σ H x y v u Q I rx ry ⟨l, b, xs, zs, e1, e2, h1, h2, hz, q.at⟩
end
end L2

end

section
namespace L2
open PySem PySem.Spec PyProof.Rows
section
variable {X : Cx}
end
end L2
namespace MF
open PySem PySem.Spec PyProof.Rows L2
structure FlOk (T : TM) : Prop where
 ok : T.ok
 c : ∀ r ∈ T.cs, r.length = T.co.length ∧ ∀ c ∈ r, 0 ≤ c ∧ c ≤ 20
 o : T.co.length ≤ 4
 o1 : ∀ c ∈ T.co, 1 ≤ c ∧ c ≤ 9
 d : ∀ x ∈ T.ds, 0 ≤ x ∧ x ≤ 100
 l0 : 0 ≤ T.lo
 h0 : 0 ≤ T.hi
 s0 : 0 ≤ T.st
 l4 : T.lo ≤ 100
 h4 : T.hi ≤ 100
 s4 : T.st ≤ 100
end MF

end

section
namespace MF
open PySem PySem.Spec PyProof.Rows L2
structure FunC (K : PySem.W.Frag) (x qual : Str) (st : Stmt) (f : Addr) (fd : FuncData) (c : Addr) : Prop where
 ex : ∃ (oc : Value) (od : Option Addr) (kV doc pm : Value) (an : Option Addr) (ct : Value) (osl : Array (Option Value)),
  fd = PySem.W.fnOf x qual (defArgs st) (defBody st) (defScope st) .none kV doc pm an (.ref c) ct ∧ K.lookup f = some ⟨oc, od, .func fd, osl⟩ ∧ PySem.W.codeIn K (.ref c) qual = true
theorem FunC.ok {P : Program} {w : World} {K : PySem.W.Frag} {mg : Str → Option Value} {base : Heap} {x qual : Str} {st : Stmt} {f c : Addr} {fd : FuncData} {N ps : List Str} {k : Nat} {sp : Sp} (F : FunC K x qual st f fd c) (S : FnScope N ps (defScope st)) (len : ∀ vs H Q E, sp vs H Q E → vs.length = ps.length)
  (hbody : ∀ (A : Around) (outer : List Env) (s : Shared) (H : Hp) (vs : List V) (Q : VK) (E : XK), Room k (A.deeper (envOfC qual (defScope st) s.heap.objs.size f (.ref c))) → sp vs H Q E →
   ∃ t, PSs (cxOf CX0 P w K mg base N qual (defScope st) f (.ref c) A outer s H E).nox (defBody st) t ∧ t { nx := fun _ H' => Q .non H', rt := Q } (start N vs) H) : FnOk P w K mg base CX0 (k + 1) f fd ps sp := by
 obtain ⟨oc, od, kV, doc, pm, an, ct, osl, rfl, lk, hcd⟩ := F.ex
 refine fn_of lk hcd S len fun A outer s H vs Q E hr hsp => ?_
 obtain ⟨t, h, q⟩ := hbody A outer s H vs Q E hr hsp
 exact ⟨t, h.nox, q⟩
def sp_law (K : PySem.W.Frag) (TB : Addr) : Sp := fun vs H Q _ => match vs with | [.ref a] => ∃ ns : List Int, SqL K H a (ns.map V.int) ∧ ns.length ≤ 63 ∧ H TB = some (.tbl #[]) ∧ ∀ H', Q (.bl true) H' | _ => False
theorem len_law {K TB vs H Q E} (h : sp_law K TB vs H Q E) : vs.length = 1 := by unfold sp_law at h; split at h; rfl; exact h.elim
def EvT (p : Addr) (H H' : Hp) : Prop := ∀ b o, H b = some o → (b = p ∧ ∃ xs, o = .lst xs) ∨ (∃ ps, o = .tbl ps) ∨ H' b = some o
theorem EvT.ev {p : Addr} {H H' : Hp} (e : Ev p H H') : EvT p H H' := fun b o h => (e b o h).elim .inl fun z => .inr (.inr z)
theorem EvT.refl {p : Addr} {H : Hp} : EvT p H H := EvT.ev Ev.refl
theorem EvT.same {p : Addr} {H H' : Hp} (e : Same H H') : EvT p H H' := EvT.ev (Ev.same e)
theorem EvT.trans {p : Addr} {H H1 H2 : Hp} (a : EvT p H H1) (b : EvT p H1 H2) : EvT p H H2 := fun c o h => (a c o h).elim .inl fun z => z.elim (fun y => .inr (.inl y)) fun y => b c o y
theorem EvT.tup {p a : Addr} {H H' : Hp} {xs : List V} (h : EvT p H H') (q : H a = some (.tup xs)) : H' a = some (.tup xs) := by
 rcases h a _ q with ⟨_, ys, e⟩ | ⟨ps, e⟩ | z
 ·cases e
 ·cases e
 ·exact z
theorem EvT.lst {p a : Addr} {H H' : Hp} {xs : List V} (h : EvT p H H') (q : H a = some (.lst xs)) (n : a ≠ p) : H' a = some (.lst xs) := by
 rcases h a _ q with ⟨e, _⟩ | ⟨ps, e⟩ | z
 ·exact absurd e n
 ·cases e
 ·exact z
theorem EvT.dk {p a : Addr} {H H' : Hp} {ks : List (Key × V)} (h : EvT p H H') (q : H a = some (.dK ks)) : H' a = some (.dK ks) := by
 rcases h a _ q with ⟨_, ys, e⟩ | ⟨ps, e⟩ | z
 ·cases e
 ·cases e
 ·exact z
theorem EvT.grow {p TB : Addr} {H H' : Hp} {ql : Str} (t : TabIn H TB ql) (g : ∀ b o, H b = some o → b ≠ TB → H' b = some o) : EvT p H H' := fun b o h => by
 by_cases e : b = TB
 ·obtain ⟨ps, h1, _⟩ := t
  rw [e, h1] at h
  cases h
  exact .inr (.inl ⟨_, rfl⟩)
 ·exact .inr (.inr (g b o h e))
mutual
theorem Rep.evT {p : Addr} {H H' : Hp} (h : EvT p H H') : ∀ (d : PyData) (v : V), Rep p H d v → Rep p H' d v
 | .none, v, q => q
 | .bool _, v, q => q
 | .int _, v, q => q
 | .str _, v, q => q
 | .tuple ds, v, q => by
  unfold Rep at q ⊢
  obtain ⟨a, xs, e, r, z⟩ := q
  exact ⟨a, xs, e, h.tup r, Reps.evT h ds xs z⟩
 | .list ds, v, q => by
  unfold Rep at q ⊢
  obtain ⟨a, xs, e, n, r, z⟩ := q
  exact ⟨a, xs, e, n, h.lst r n, Reps.evT h ds xs z⟩
 | .dict kvs, v, q => by
  unfold Rep at q ⊢
  obtain ⟨a, ks, e, n, k, r⟩ := q
  exact ⟨a, ks, e, n, k, h.dk r⟩
theorem Reps.evT {p : Addr} {H H' : Hp} (h : EvT p H H') : ∀ (ds : List PyData) (xs : List V), Reps p H ds xs → Reps p H' ds xs
 | [], xs, q => by unfold Reps at q ⊢; exact q
 | d :: ds, xs, q => by
  unfold Reps at q ⊢
  obtain ⟨x, r, e, z, zs⟩ := q
  exact ⟨x, r, e, Rep.evT h d x z, Reps.evT h ds r zs⟩
end
theorem _root_.L2.TabIn.grow {H H' : Hp} {TB : Addr} {ql : Str} (t : TabIn H TB ql) (e : ∀ b o, H b = some o → (∀ xs, o ≠ .lst xs) → H' b = some o) : TabIn H' TB ql := by
 obtain ⟨ps, h1, h2, h3⟩ := t
 refine ⟨ps, e _ _ h1 (fun xs z => by cases z), h2, fun pos v hv => ?_⟩
 obtain ⟨c, r1, r2⟩ := h3 pos v hv
 exact ⟨c, r1, e _ _ r2 (fun xs z => by cases z)⟩
theorem _root_.L2.TabIn.ev {p : Addr} {H H' : Hp} {TB : Addr} {ql : Str} (t : TabIn H TB ql) (e : Ev p H H') : TabIn H' TB ql := t.grow fun b o q n => (e b o q).elim (fun ⟨_, xs, z⟩ => absurd z (n xs)) id
theorem _root_.L2.TabIn.same {H H' : Hp} {TB : Addr} {ql : Str} (t : TabIn H TB ql) (e : Same H H') : TabIn H' TB ql := t.grow fun b o q _ => e b o q
abbrev qlLaw : Str := (("law" : Str) ++ ".<locals>.") ++ "<lambda>"
theorem cut_upto {xs : List V} {i : Nat} : cutV xs none (some (i : Int)) = xs.take i := by
 unfold cutV
 rw [HT.sIx_nat]
 show (xs.drop 0).take (min i xs.length - 0) = _
 rw [List.drop_zero, Nat.sub_zero]
 by_cases h : i ≤ xs.length
 ·rw [Nat.min_eq_left h]
 ·rw [Nat.min_eq_right (by omega), List.take_of_length_le (Nat.le_refl _), List.take_of_length_le (by omega)]
theorem cut_mem {xs : List V} {lo hi : Option Int} {v : V} (h : v ∈ cutV xs lo hi) : v ∈ xs := by unfold cutV at h; exact List.mem_of_mem_drop (List.mem_of_mem_take h)
theorem big_list {n : Nat} (h : n ≤ 1000) : n ≤ sizeLine := Nat.le_of_lt (small1000 h)
end MF

end

section
namespace MF
open PySem PySem.Spec PyProof.Rows L2
structure DfC (K : PySem.W.Frag) (mg : Str → Option Value) (x : Str) (st : Stmt) (ps : List Str) (c : Addr) : Prop where
 ex : ∃ (f : Addr) (fd : FuncData), FunC K x x st f fd c ∧ mg x = some (.ref f) ∧ PySem.W.keepIn K (.ref f) = true ∧ Binds K fd ps []
end MF

end

section
namespace MF
open PySem PySem.Spec PyProof.Rows L2
section
variable {P : Program} {w : World} {K : PySem.W.Frag} {mg : Str → Option Value} {base : Heap}
structure Dm (K : PySem.W.Frag) (C : Addr) (m qual : Str) (st : Stmt) (ps : List Str) : Prop where
 ex : ∃ (f : Addr) (fd : FuncData), Fun K m qual st f fd ∧ Meth K C m f ∧ Binds K fd ps []
structure Mt (CX : CXT) (P : Program) (w : World) (K : PySem.W.Frag) (mg : Str → Option Value) (base : Heap) (n : Nat) (C : Addr) (m : Str) (ps : List Str) (sp : Sp) : Prop where
 ex : ∃ (f : Addr) (fd : FuncData), FnOk P w K mg base CX n f fd ps sp ∧ Meth K C m f ∧ Binds K fd ps []
end
section
variable {X : Cx} {CX : CXT} {E : XK} {n : Nat} {C : Addr} {m : Str} {ps : List Str} {sp : Sp} {o e : Expr} {es : List Expr} {ta : TE} {t : TA} {apos pos : Pos} {pl : Sem Bool}
end
section
variable {P : Program} {w : World} {K : PySem.W.Frag} {mg : Str → Option Value} {base : Heap}
structure Di (K : PySem.W.Frag) (mg : Str → Option Value) (x : Str) (C : Addr) (qual : Str) (st : Stmt) (ps : List Str) : Prop where
 ex : ∃ (f : Addr) (fd : FuncData), Fun K "__init__" qual st f fd ∧ Mk K C f ∧ Binds K fd ps []
 at_ : mg x = some (.ref C)
structure Ms (P : Program) (w : World) (K : PySem.W.Frag) (mg : Str → Option Value) (base : Heap) (n : Nat) (x : Str) (C : Addr) (ps : List Str) (sp : Sp) : Prop where
 ex : ∃ (f : Addr) (fd : FuncData), FnOk P w K mg base CX0 n f fd ps sp ∧ Mk K C f ∧ Binds K fd ps []
 at_ : mg x = some (.ref C)
end
end MF

end

section
namespace L2
open PySem PySem.Spec PyProof.Rows PySem.W Builtin Builtin.ObjectAttr
def rawX (e C : Addr) (dx : Option Addr) : HO := .ext fun h => ∃ t, h.get? e = some (rawObj C dx t)
theorem rawX_ok {P : Program} {w : World} {H : Hp} {h : Heap} {e C t : Addr} {dx : Option Addr} (x : h.get? e = some (rawObj C dx t)) : ObjOk P w H h e (rawX e C dx) := ⟨⟨t, x⟩, ⟨_, x⟩, fun _ _ ⟨t, y⟩ k => ⟨t, k _ y⟩⟩
structure XCls (K : Frag) (C : Addr) (f : Str) : Prop where
 sa : findIn K (.ref C) "__setattr__" = some (some (.builtin "object.__setattr__"))
 mro : ∃ cd M, clsIn K C = some cd ∧ cd.mro = .ref C :: .ref M :: bmV ∧ cd.hasDict = true
 no : findIn K (.ref C) f = some none
section
variable {prog : Program} {w : World} {A : Around} {E : Value → Shared → Prop} {s : Shared} {K : Frag} {x C : Addr}
theorem put_first {a : Addr} {name : Str} {tk : Tok} {v : Value} {Q : PySem.Fin → Shared → Prop} (e : s.heap.get? a = some { cls := .type "dict", data := .dict #[] })
  (q : ∀ h', h'.Ns1 a (fun y => if y = name then some v else none) → (∀ b, b ≠ a → h'.get? b = s.heap.get? b) → Q (.done (.ret .none)) { s with heap := h', toks := s.toks + 1 }) :
  wpAny (model prog w) A (storeInDict a (.str name tk) name v) Q E s := by
 have n0 : s.heap.Ns1 a fun _ => none := .of_empty ⟨_, #[], _, e, rfl, fun _ z => absurd z (by simp), fun _ => rfl⟩
 simp only [storeInDict, newKeyGuard]
 exact wpAny_bind (wpAny_pure (wpAny_bind (wpAny_nsSet1 n0 fun h' n same => (by
  have few := n.count (ns := [name]) (Within.cons name v Within.nil)
  obtain ⟨o, es, _, ho, hd, hl⟩ := few
  have one : es.size ≤ sizeLine + 1 := Nat.le_trans hl (by rw [sizeLine_eq]; exact (by decide : 1 ≤ 16777217))
  exact wpAny_bind (wpAny_lookBehind ho (hd ▸ pastItsLine_dict one) (wpAny_pure (q h' n same.2)))))))
theorem set_first {name : Str} {v : Value} {t : Addr} {Q : Unit → Shared → Prop} (c : XCls K C name) (X : K.In s.heap) (hx : s.heap.get? x = some (rawObj C none t))
  (h : ∀ h' tk, h'.get? x = some (rawObj C (some s.heap.objs.size) t) → h'.Ns1 s.heap.objs.size (fun y => if y = name then some v else none) → (∀ b o, b ≠ x → s.heap.get? b = some o → h'.get? b = some o) → Q () { s with heap := h', toks := tk }) :
  wpAny (model prog w) A (setAttr (.ref x) name v) Q E s := by
 obtain ⟨cd, M, hc, hm, hd⟩ := c.mro
 have I : InstAt s.heap x (rawObj C none t) C none := ⟨hx, rfl, rfl, trivial⟩
 have line : Looks (model prog w) s.heap (mroOf (.ref C)) cd.mro := (looks_clsIn X hc).andThen .now
 have sub : Looks (model prog w) s.heap (isInstance (.ref x) (.type "object")) true := I.type.andThen (looks_mroIn X (show mroIn K C (.type "object") = some true from by unfold mroIn; rw [hc, Option.bind_some, hm]; rfl))
 refine set_plain X I c.sa (codeAny_call_builtin PySem.F.store_object.slot.plain PySem.F.store_object.entry (@check_slot (model prog w) _ _ { s with toks := s.toks + 1 } "object.__setattr__" "object" "__setattr__" (.ref x) [.str name s.toks, v] [] _ PySem.F.store_object.kind PySem.F.store_object.split sub (PySem.F.store_object.args (.ref x) (.str name s.toks) v) ?_))
 rw [osa_eq, refuse_eq]
 refine wpAny_bind (wpAny_bind (I.type.at (wpAny_bind (line.at ?_))))
 rw [hm, refuseLoop_ref, refuseLoop_ref, PySem.F.store_ValueError.passes]
 refine wpAny_pure (wpAny_bind (I.type.at (wpAny_bind ((looks_findIn X c.no).at (wpAny_bind (wpAny_pure ?_))))))
 show wpAny _ _ (storeInOwnDict _ _ _ _ _ _) _ _ _
 -- the object gets its dict
 let h1 := s.heap.push { cls := .type "dict", data := .dict #[] }
 let h2 := h1.update x fun o => { o with dict := some s.heap.objs.size }
 have old : ∀ b o, s.heap.get? b = some o → h1.get? b = some o := fun b o z => Heap.get?_push_of_some _ z
 have nx : s.heap.objs.size ≠ x := fun z => absurd (Heap.lt_size hx) (by rw [← z]; exact Nat.lt_irrefl _)
 have e2 : h2.get? s.heap.objs.size = some { cls := .type "dict", data := .dict #[] } := by rw [← Heap.get?_push_at (h := s.heap) (o := { cls := .type "dict", data := .dict #[] }) rfl rfl]; exact Heap.get?_update_other _ _ nx.symm
 have x2 : h2.get? x = some (rawObj C (some s.heap.objs.size) t) := Heap.get?_update_self _ (old _ _ hx) rfl
 have got : ∀ A', wpAny (model prog w) A' (instanceDict x true) (fun d s' => d = some s.heap.objs.size ∧ s' = { s with heap := h2, toks := s.toks + 1 }) E { s with toks := s.toks + 1 } := fun A' => by
  refine wpAny_bind (wpAny_loadPart hx (wpAny_bind ((looks_clsIn X hc).at ?_)))
  rw [hd]
  exact wpAny_bind (wpAny_alloc (wpAny_bind (wpAny_update (old _ _ hx) (wpAny_pure ⟨rfl, rfl⟩))))
 refine wpAny_bind (wpAny_pure (wpAny_bind (wpAny_mono (got _) (fun dx s' z => ?_) fun _ _ z => z)))
 obtain ⟨rfl, rfl⟩ := z
 refine put_first e2 fun h' n same => h h' _ ((same x nx.symm).trans x2) n fun b o hb z => ?_
 have hs : b ≠ s.heap.objs.size := fun y => absurd (Heap.lt_size z) (by rw [y]; exact Nat.lt_irrefl _)
 rw [same b hs, show h2.get? b = h1.get? b from Heap.get?_update_other _ _ hb.symm]
 exact old b o z
set_option maxHeartbeats 1000000 in
theorem exc_own {name : Str} {expr : Bool} {ox : Obj} {od : Option Obj} {v : Value} {Q : Value → Shared → Prop} (O : ExcCls K C) (X : K.In s.heap) (I : InstAt s.heap x ox C od) (hf : findObj K C od name = some (.value v)) (hv : handedIn v = true) (h : Q v { s with toks := s.toks + 1 }) :
  wpAny (model prog w) A (getAttr (.ref x) name expr) Q E s := by
 cases s
 have L0 := I.type (M := model prog w)
 have L1 := looks_findIn (M := model prog w) X O.ga
 have L2 := looks_findIn (M := model prog w) X O.gt
 have L3 := looks_find (M := model prog w) X I hf
 have L4 : Looks (model prog w) _ (isInstance (.ref x) (.type "BaseException")) true := I.type.andThen (looks_mroIn X O.bx)
 have b := PySem.F.attr_ValueError.ga.bind (.ref x)
 have n : (Value.builtin "BaseException.__getattribute__" == Value.builtin "object.__getattribute__") = false := by decide +kernel
 have n2 : (expr && onTheHeap (Value.builtin "BaseException.__getattribute__")) = false := Bool.and_false _
 simp only [getAttr, getAttrBy]
 repeat (any_goals (first | assumption | with_reducible refine Looks.at (by assumption) ?_ | wp_step))
 refine codeAny_call_builtin PySem.F.attr_ValueError.ga.plain F.entry_bexc_ga ?_
 have kd : builtinKind "BaseException.__getattribute__" = some .slot := by decide +kernel
 have sp : splitId "BaseException.__getattribute__" = some ("BaseException", "__getattribute__") := by decide +kernel
 have ar := F.args_bexc_ga (.ref x)
 simp only [checkBuiltinCall, kd, sp]
 repeat (any_goals (first | assumption | with_reducible refine Looks.at (by assumption) ?_ | exact wpAny_of_eq (ar _) (wpAny_pure ‹_›) | wp_step))
 show wpAny _ _ (handedOut v) _ _ _
 rw [handedOut_of hv]
 exact wpAny_pure h
end
section
variable {X : Cx}
def tFs (c : Str) (te : TE) : TE := fun σ H Q => te σ H fun v H1 => ∃ n : Int, v = .int n ∧ n.natAbs < 1000 ∧ Q (.str (c ++ Str.ofString (toString n))) H1
theorem pe_fs {c : Str} {e : Expr} {k : Nat} {p1 p2 p3 : Pos} {te : TE} (hc : c.length ≤ 1000) (he : PE X e te) : PE X (.JoinedStr [.Constant (.str c) k p1, .FormattedValue e (-1) none p2] p3) (tFs c te) := by
 intro pins s σ H Q I h
 refine JoinedStr_many (joinParts_cons (Calls.Constant_str ?_))
 show (Str.empty ++ c).length ≤ sizeLine ∧ wpAny _ _ (joinParts (Str.empty ++ c) _) _ _ _
 rw [Str.empty_append]
 refine ⟨by rw [sizeLine_eq]; omega, ?_⟩
 refine joinParts_cons (FormattedValue_plain (thn (he pins _ σ H _ (I.tok _) h) fun u s1 ⟨v, H1, I1, rv, n, hv, hn, q⟩ => ?_))
 subst hv
 obtain ⟨t, rfl⟩ := rv
 have h2 : n.natAbs.log2 < 10 := by
  rcases Nat.eq_zero_or_pos n.natAbs with z | z
  ·rw [z]; decide
  ·exact (Nat.log2_lt (by omega)).mpr (by omega)
 have hl : (Str.ofString (toString n)).length ≤ 11 := by
  have := int_text_length_le (k := 10) (by decide) h2
  rw [PySem.ofString_length]; omega
 refine formatField_int_small (by omega) ⟨by rw [strLen_append, sizeLine_eq]; omega, joinParts_nil ⟨.str (c ++ Str.ofString (toString n)), H1, (I1.tok _).tok _, ⟨_, rfl⟩, q⟩ (by rw [strLen_append, sizeLine_eq]; omega)⟩
structure XBase (K : Frag) (M : Addr) : Prop where
 ga : specialIn K (.ref M) "__getattribute__" = some (some (.builtin "type.__getattribute__"))
 rd : readsIn K M (.type "type") = true
 fc : ∃ r, findCls K (.ref M) (.type "type") "__init__" = some r ∧ r = .val (.builtin "ValueError.__init__")
def tBase (K : Frag) (t : TA) : TE := fun σ H Q => t σ H fun vs H1 => ∃ e C fI v, vs = [.ref e, v] ∧ H1 e = some (rawX e C none) ∧ excInI K C fI = true ∧ Q .non H1
theorem pe_base {M : Addr} {x : Str} {a b : Expr} {p1 p2 p3 : Pos} {t : TA} {pl : Sem Bool} (hx : XBase X.K M) (hg : Gl X x) (hm : X.mg x = some (.ref M)) (ha : PA X [a, b] t)
  (hdb : (x == ("__debug__" : Str)) = false := by decide) (hst : starEach [a, b] X.env = (false, eval a X.env) :: starEach [b] X.env := by rfl) (hpl : (backTo p3 (starEach [b] X.env)).any (·.1) = false := by rfl)
  (ht : eval (.Call (.Attribute (.Name x p1) "__init__" p2) [a, b] [] p3) X.env = (do
   let ov ← eval (.Name x p1) X.env
   standAt p2.atName
   let (f, first) ← holding [ov] (getMethod ov "__init__" pl)
   callWith p3 f first (backTo p3 (starEach [a, b] X.env)) (backToKw p3 (keywordEach [] X.env))) := by rfl) :
  PE X (.Call (.Attribute (.Name x p1) "__init__" p2) [a, b] [] p3) (tBase X.K t) := by
 intro pins s σ H Q I h
 refine methodCall_KW (pl := pl) (ld_glob I hg hm ?_ hdb) ht
 obtain ⟨r, hf, hr⟩ := hx.fc
 subst hr
 refine method_cls I.kIn hx.ga (cls_value I.kIn hx.rd hf rfl ?_)
 have I0 := I.tok (s.toks + 1)
 refine PyProof.Rows.callWith_builtin1 (thn (ha p3 pins _ σ H _ I0 h) fun us s1 ⟨vs, H1, I1, rv, e, C, fI, v, hv, he, hc, q⟩ => ?_) hst hpl
 subst hv
 obtain ⟨u1, u2, rfl, r1, r2⟩ := rv.two
 obtain rfl : u1 = Value.ref e := r1
 obtain ⟨⟨t0, ht0⟩, _, _⟩ := (show ObjOk X.prog X.w H1 s1.heap e (rawX e C none) from I1.hok e _ he)
 refine wpAny_call (codeAny_call_builtin PySem.F.excBase_ValueError.init.plain PySem.F.excBase_ValueError.initEntry ?_)
 obtain ⟨-, -, bm, N, nm, qn, bs, hd, sn, sub, ab, col, dd, k0, k1, k2, k3, k5, hC, T⟩ := lies_of I1.kIn hc
 obtain ⟨hh, g, d, tk, os⟩ := s1
 refine wpAny_check_init_subT PySem.F.excBase_ValueError T hC ht0 rfl ?_
 wp_walk
 have ht0' : hh.get? e = some (rawObj C none t0) := ht0
 have hp : (hh.push { cls := .type "tuple", data := .seq #[u2] }).get? e = some (rawObj C none t0) := Heap.get?_push_of_some _ ht0'
 have hw : ((hh.push { cls := .type "tuple", data := .seq #[u2] }).update e (Obj.mapFields fun x => x.setIfInBounds 0 (.ref hh.objs.size))).get? e = some (rawObj C none hh.objs.size) := Heap.get?_update_self _ hp rfl
 have I2 := I1.write (x := e) (e := e) (o := rawX e C none) (t' := tk) (h' := (hh.push { cls := .type "tuple", data := .seq #[u2] }).update e (Obj.mapFields fun x => x.setIfInBounds 0 (.ref hh.objs.size))) (by rw [he]; exact trivial) (.inl rfl)
  (fun b o hb g => (Heap.get?_update_other _ _ (Ne.symm hb)).trans (Heap.get?_push_of_some _ g)) ⟨_, hw⟩ (rawX_ok hw)
 have eu : upd H1 e (rawX e C none) = H1 := funext fun b => by
  by_cases z : b = e
  ·rw [z, upd_same]; exact he.symm
  ·exact upd_ne z
 rw [eu] at I2
 exact ⟨.non, H1, I2, rfl, q⟩
def sXset (K : Frag) (ta tv : TE) (f : Str) : TS := fun D σ H => tv σ H fun y H1 => ta σ H1 fun x H2 => ∃ e C, x = .ref e ∧ H2 e = some (rawX e C none) ∧ XCls K C f ∧ ∀ a, H2 a = none → D.nx σ (upd (upd H2 e (rawX e C (some a))) a (.xd [(f, y)]))
theorem ps_xset {o value : Expr} {f : Str} {pos pos' : Pos} {ta tv : TE} (ha : PE X o ta) (hv : PE X value tv) (hs : swapsWith value (some (.Attribute o f pos')) pos.line X.env = pure false) (hex : X.ex = []) : PS X (.Assign [.Attribute o f pos'] value pos) (sXset X.K ta tv f) := by
 intro pins s σ H D I h
 refine plainObj_wpAny_Assign_Attribute (thn (hv pins s σ H _ I h) fun u s1 ⟨y, H1, I1, ry, q⟩ => thn (ha pins s1 σ H1 _ I1 q) fun ov s2 ⟨x, H2, I2, rx, e, C, ex, he, c, q2⟩ => ?_) hs
 subst ex
 obtain rfl : ov = Value.ref e := rx
 obtain ⟨⟨t0, ht0⟩, _, _⟩ := (show ObjOk X.prog X.w H2 s2.heap e (rawX e C none) from I2.hok e _ he)
 refine set_first c I2.kIn ht0 fun h' tk hx hn hk => ?_
 have sz : H2 s2.heap.objs.size = none := I2.hok.fresh (Nat.le_refl _)
 have ne : s2.heap.objs.size ≠ e := Nat.ne_of_gt (Heap.lt_size ht0)
 have I3 := I2.write (x := e) (e := e) (o := rawX e C (some s2.heap.objs.size)) (t' := tk) (h' := h') (by rw [he]; exact trivial) (.inl rfl) (fun b o hb g => hk b o hb g) ⟨_, hx⟩ (rawX_ok hx)
 have I4 := I3.track (a := s2.heap.objs.size) (o := .xd [(f, y)]) ?_ ?_ ?_ ?_ ?_ ?_
 ·exact ⟨σ, _, I4, q2 _ sz⟩
 ·intro z
  obtain ⟨m, ⟨o, _, _, ho, _⟩, _⟩ := I2.loc
  exact absurd (Heap.lt_size ho) (by rw [← z]; exact Nat.lt_irrefl _)
 ·intro y' c' e' z
  obtain ⟨v, hv⟩ := I2.cell y' c' e'
  obtain ⟨o, ho, _⟩ := hv
  exact absurd (Heap.lt_size ho) (by rw [z]; exact Nat.lt_irrefl _)
 ·intro p hp z
  exact absurd (Heap.lt_size (I2.pin p hp).1) (by rw [z]; exact Nat.lt_irrefl _)
 ·cases z : X.s₀.heap.get? s2.heap.objs.size with
  | none => rfl
  | some o =>
   obtain ⟨o1, e1⟩ := I2.base.there _ o z (by rw [hex]; simp)
   exact absurd (Heap.lt_size e1) (Nat.lt_irrefl _)
 ·rw [upd_ne ne]; exact sz
 ·refine ⟨_, hn, fun g => ?_⟩
  show RelO (List.lookup g [(f, y)]) (if g = f then some u else none)
  by_cases z : g = f
  ·rw [if_pos z, z]; simp [List.lookup]; exact ry
  ·rw [if_neg z]
   have : (g == f) = false := by simpa using z
   simp [List.lookup, this, RelO]
theorem Inv.untrack {pins : List (Addr × Obj)} {σ : St} {H H' : Hp} {s : Shared} {e : Addr} {φ : Heap → Prop} (I : Inv X pins σ H' s) (hn : H e = none) (he : ∀ b, b ≠ e → H b = H' b) (hx : H' e = some (.ext φ)) : Inv X pins σ H s := by
 have no : ∀ b, H' b = none → H b = none := fun b z => by
  by_cases q : b = e
  ·rw [q]; exact hn
  ·rw [he b q]; exact z
 have so : ∀ b u, b ≠ e → H' b = some u → H b = some u := fun b u q z => by rw [he b q]; exact z
 refine ⟨I.ok, I.os, I.bare, ⟨I.base.keep, I.base.slot, fun b o g m x => no b (I.base.free b o g m x), I.base.there, fun b xs q => so b _ (fun z => by have := I.base.tups b xs q; rw [z, hx] at this; cases this) (I.base.tups b xs q), fun b o xs q => so b _ (fun z => by have := I.base.frzs b o xs q; rw [z, hx] at this; cases this) (I.base.frzs b o xs q), fun b ps q => ?_⟩,
  I.loc, I.cell, no _ I.free, fun y c g => no _ (I.freeC y c g), fun p hp => ?_, fun b ob g => ?_, I.len⟩
 ·obtain ⟨m, z⟩ := I.base.tbls b ps q
  exact ⟨m, so b _ (fun w => by rw [w, hx] at z; cases z) z⟩
 ·obtain ⟨a1, a2, a3⟩ := I.pin p hp
  exact ⟨a1, no _ a2, a3⟩
 ·have hb : b ≠ e := fun z => by rw [z, hn] at g; cases g
  have g' : H' b = some ob := by rw [← he b hb]; exact g
  refine (I.hok b ob g').stay (fun _ _ _ q => q) (fun c q => so c _ (fun z => ?_) q) fun c xs q => so c _ (fun z => ?_) q
  ·rw [z, hx] at q; cases q
  ·rw [z, hx] at q; cases q
def sp_init (C : Addr) (f : Str) : Sp := fun vs H Q _ => match vs with
 | [.ref e, v] => (∃ n : Int, v = .int n ∧ n.natAbs < 1000) ∧ H e = some (rawX e C none) ∧ ∀ a, H a = none → Q .non (upd (upd H e (rawX e C (some a))) a (.xd [(f, v)]))
 | _ => False
structure Xi (P : Program) (w : World) (K : Frag) (mg : Str → Option Value) (base : Heap) (n : Nat) (x : Str) (C : Addr) (f : Str) : Prop where
 ex : ∃ (fI : Addr) (fd : FuncData) (ps : List Str), FnOk P w K mg base CX0 n fI fd ps (sp_init C f) ∧ excInI K C fI = true ∧ isFn K (.ref fI) = true ∧ Binds K fd ps []
 at_ : mg x = some (.ref C)
theorem ps_raiseI {E : XK} (D : IsDef X E) {n : Nat} {x f : Str} {C : Addr} {a : Expr} {ta : TA} {np cpos pos : Pos} (hc : X.calm = true) (F : Xi X.prog X.w X.K X.mg X.base n x C f) (hr : Room (n + 1) X.A) (hg : Gl X x) (ha : PA X [a] ta)
    (hdb : (x == ("__debug__" : Str)) = false := by decide) (hes : starEach [a] X.env = (false, eval a X.env) :: starEach [] X.env := by rfl) :
    PS X (.Raise (some (.Call (.Name x np) [a] [] cpos)) none pos) (fun _ σ H => ta σ H fun vs H1 => ∃ n : Int, vs = [.int n] ∧ n.natAbs < 1000 ∧ ∀ d, H1 d = none → E (.ref C) (some d) (upd H1 d (.xd [(f, .int n)]))) := by
  intro pins s σ H D' I h
  obtain ⟨⟨fI, fd, ps, F, hx, hfn, hb⟩, hm⟩ := F
  have L := lies_of I.ok.mod.kin hx
  refine raise_raw (K := X.K) (I.ok.hd hc) (wpAny_Call_Name_kw (ld_glob I hg hm ?_ hdb))
  refine callWith_K (h₀ := X.base) I.ok.mod.kin (exc_keep hx) (thn (ha cpos pins s σ H _ I h) fun us s2 ⟨vs, H1, I1, rv, n, hv, hn, q1⟩ => ⟨I1.kIn, ?_⟩) hes rfl
  subst hv
  obtain ⟨v, hvn⟩ : ∃ v, v = V.int n := ⟨_, rfl⟩
  rw [← hvn] at rv q1
  obtain ⟨u, rfl, ru⟩ := rv.one
  obtain ⟨oI, hoI, hcI⟩ : ∃ oI, s2.heap.get? fI = some oI ∧ oI.cls = .type "function" := by
    obtain ⟨oI, l, c⟩ := Option.map_eq_some_iff.mp (beq_iff_eq.mp hfn)
    exact ⟨oI, I1.kIn _ _ l, c⟩
  refine (L.keeps I1.bk).call ⟨oI, hoI, hcI⟩ (by show 1 ≤ sizeLine; rw [sizeLine_eq]; omega) fun h' e t0 hk hf ht0 => ?_
  have nH : H1 e = none := by
    cases z : H1 e with
    | none => rfl
    | some o =>
      obtain ⟨w, hw⟩ := ObjOk.there (I1.hok e o z)
      rw [hf] at hw; cases hw
  have n0 : X.s₀.heap.get? e = none := by
    cases z : X.s₀.heap.get? e with
    | none => rfl
    | some o =>
      obtain ⟨o1, e1⟩ := I1.base.there e o z (by rw [D.ex]; simp)
      rw [hf] at e1; cases e1
  have I2 : Inv X pins σ H1 { s2 with heap := h' } := I1.kept hk
  have I3 : Inv X pins σ (upd H1 e (rawX e C none)) { s2 with heap := h' } := by
    refine I2.track (fun z => ?_) (fun y c g z => ?_) (fun p hp z => ?_) n0 nH (rawX_ok ht0)
    · obtain ⟨m, ⟨o, _, _, ho, _⟩, _⟩ := I1.loc
      rw [← z, hf] at ho; cases ho
    · obtain ⟨w, hw⟩ := I1.cell y c g
      obtain ⟨o, ho, _⟩ := hw
      rw [z, hf] at ho; cases ho
    · have := (I1.pin p hp).1
      rw [z, hf] at this; cases this
  have hsp : sp_init C f [.ref e, v] (upd H1 e (rawX e C none)) (fun r H' => r = .non ∧ ∃ d, d ≠ e ∧ H1 d = none ∧ H' = upd (upd (upd H1 e (rawX e C none)) e (rawX e C (some d))) d (.xd [(f, v)])) E0 :=
    ⟨⟨n, hvn, hn⟩, upd_same, fun d hd => (have nd : d ≠ e := fun z => by rw [z, upd_same] at hd; cases hd
      ⟨rfl, d, nd, (upd_ne nd).symm.trans hd, rfl⟩)⟩
  have r2 : Vals [V.ref e, v] [Value.ref e, u] := .cons rfl (.cons ru .nil)
  have hl : ([Value.ref e, u] ++ []).length = ps.length := by
    have := F.len _ _ _ _ hsp
    exact this
  refine wpAny_call (codeAny_mono (F.run _ X.stack _ _ ⟨[.ref e, u], []⟩ ([.ref e, u] ++ []) _ _ E0 (hr.make C [u] []) (I3.env0.make C [u] []) (hb _ [.ref e, u] I3.kIn hl) r2 hsp) fun r s3 hq => ?_)
  cases r with
  | error e => exact hq.elim
  | ok fl =>
    cases fl with
    | ret u' =>
      obtain ⟨v', H', I4, rv', ev, d, nd, hd, rfl⟩ := I3.after hq
      subst ev
      obtain ⟨⟨t1, ht1⟩, _, _⟩ := (show ObjOk X.prog X.w _ s3.heap e (rawX e C (some d)) from I4.hok e _ (by rw [upd_ne (Ne.symm nd), upd_same]))
      refine ⟨rv', e, C, fI, some d, t1, rfl, L.keeps I4.bk, ht1, ?_⟩
      have I5 : Inv X pins σ (upd H1 d (.xd [(f, v)])) s3 := I4.untrack (e := e) (by rw [upd_ne (Ne.symm nd)]; exact nH) (fun b hb => by
        by_cases z : b = d
        · rw [z, upd_same, upd_same]
        · rw [upd_ne z, upd_ne z, upd_ne hb, upd_ne hb]) (by rw [upd_ne (Ne.symm nd), upd_same]; rfl)
      exact D.madeD I5 n0 (by rw [upd_ne (Ne.symm nd)]; exact nH) ht1 rfl rfl rfl rfl (q1 d hd)
    | next => exact False.elim hq
    | brk => exact False.elim hq
    | cont => exact False.elim hq
def excD (a D : Addr) (dx : Option Addr) : HO := .ext fun h => ∃ oe vs, h.get? a = some oe ∧ oe.cls = .ref D ∧ oe.dict = dx ∧ oe.data = .fields vs
def rIsiD (K : Frag) : List V → Hp → VK → Prop := fun xs H Q => ∃ (e C : Addr) (dx : Option Addr) (v : V) (b : Bool), xs = [.ref e, v] ∧ H e = some (excD e C dx) ∧ ExcCls K C ∧ (∀ u, RelV v u → PySem.W.kitOne K (.ref C) u = some b) ∧ Q (.bl b) H
theorem call_isiD (K : Frag) (hK : X.K = K := by rfl) : CallR X (.builtin "isinstance") (rIsiD K) := by
 subst hK
 intro pins s σ H vs us Q I rv h
 obtain ⟨e, C, dx, v, b, rfl, he, O, k, q⟩ := h
 obtain ⟨u1, u2, rfl, r1, r2⟩ := rv.two
 obtain rfl : u1 = Value.ref e := r1
 obtain ⟨⟨oe, vs, h1, h2, _⟩, _, _⟩ := (show ObjOk X.prog X.w H s.heap e (excD e C dx) from I.hok e _ he)
 exact PySem.W.kia_one (kitx_exc O) I.kIn ⟨oe, h1, h2⟩ (k u2 r2) (fun z => nomatch z) fun tk => ⟨.bl b, H, I.tok _, rfl, q⟩
def tXat (K : Frag) (ta : TE) (f : Str) : TE := fun σ H Q => ta σ H fun x H1 => ∃ e C a fs v, x = .ref e ∧ H1 e = some (excD e C (some a)) ∧ H1 a = some (.xd fs) ∧ ExcCls K C ∧ hasDictIn K C = true ∧ findIn K (.ref C) f = some none ∧ fs.lookup f = some v ∧ Q v H1
theorem pe_xat {e : Expr} {f : Str} {pos : Pos} {ta : TE} (he : PE X e ta) (hb : attributeBase e f X.env (eval e X.env) = eval e X.env) : PE X (.Attribute e f pos) (tXat X.K ta f) := by
 intro pins s σ H Q I h
 refine attr_of hb (thn (he pins s σ H _ I h) fun u s1 ⟨x, H1, I1, rx, e, C, a, fs, v, ex, ea, hx, O, hh, hn, l, q⟩ => ?_)
 subst ex
 obtain rfl : u = Value.ref e := rx
 obtain ⟨⟨oe, vs, h1, h2, h3, h4⟩, _, _⟩ := (show ObjOk X.prog X.w H1 s1.heap e (excD e C (some a)) from I1.hok e _ ea)
 obtain ⟨mA, hn1, r⟩ := (show ObjOk X.prog X.w H1 s1.heap a (.xd fs) from I1.hok a _ hx)
 obtain ⟨u, hu', ru⟩ := RelO.some_of (v := v) (o := mA f) (by rw [← l]; exact r f)
 obtain ⟨od, ho, hl⟩ := lookIn_ns hn1
 have J : InstAt s1.heap e oe C (some od) := ⟨h1, h2, by unfold notCls; rw [h4], by rw [h3]; exact ho⟩
 refine exc_own O I1.kIn J (v := u) (findObj_own hh hn rfl (by rw [hl, hu'])) (handed_of ru) ⟨v, H1, I1.tok _, ru, q⟩
end
end L2

end

section
namespace L2
open PySem PySem.Spec PyProof.Rows
def saidET (W : Addr → Option Addr → Hp → List V → Prop) (Q : VK) : XK := fun c dx H2 => ∃ C ws, c = .ref C ∧ W C dx H2 ws ∧ ∀ H3 t, (∀ b o, H2 b = some o → H3 b = some o) → H3 t = some (.tup ws) → Q (.ref t) H3
def sp_whichT (W : Addr → Option Addr → Hp → List V → Prop) : Sp := fun vs H Q _ => match vs with
 | [.ref e] => ∃ C dx ws, H e = some (excD e C dx) ∧ W C dx H ws ∧ ∀ H3 t, (∀ b o, H b = some o → H3 b = some o) → H3 t = some (.tup ws) → Q (.ref t) H3
 | _ => False
def saidSpT (P : Program) (w : World) (K : PySem.W.Frag) (mg : Str → Option Value) (base : Heap) (k : Nat) (W : Addr → Option Addr → Hp → List V → Prop) (outer : List Env) (s : Shared) : Sp := fun vs H Q _ => match vs with
 | [.ref f] => PySem.W.FnAt f s.heap ∧ H f = none ∧ f ∉ frs outer ∧ ∀ (A' : Around) (outer' : List Env) (s' : Shared), Room k A' → Env0 P w K mg base A' outer' s' H → Un (frs outer) [] H H s.heap s'.heap →
   codeAny (model P w) A' (.call (.ref f) ⟨[], []⟩) (CR (CXE P w) outer' P w H s' (saidQ Q) (saidET W Q)) s'
 | _ => False
section
variable {X : Cx} {H : Hp} {f : Addr} {Q : VK} {W : Addr → Option Addr → Hp → List V → Prop}
theorem pe_lamcallT {k : Nat} {W0 : Value → Shared → Prop} {x : Str} {p pos : Pos} (hN : X.N[0]? = some x) (hv : Vis X.env.scope x) (hdb : (x == ("__debug__" : Str)) = false) (hcd : (x == ("__classdict__" : Str)) = false) (hex : X.ex = []) (h0 : X.H₀ = H)
  (hr : Room k X.A) (hs : saidSpT X.prog X.w X.K X.mg X.base k W X.outer X.s₀ [.ref f] H Q E0)
  (hW : ∀ pins σ sc v s', Inv X pins σ H sc → CXE X.prog X.w X.stack H sc (saidET W Q) v s' → W0 v s') :
  PE (X.wish W0) (.Call (.Name x p) [] [] pos) (fun σ H' Q' => σ[0]? = some (some (.ref f)) ∧ H' = H ∧ ∀ v H2, saidQ Q v H2 → Q' v H2) := by
 intro pins s σ H' Q' I ⟨hσ, e, hq⟩
 subst e
 obtain ⟨hf, hn, hfr, run⟩ := hs
 refine wpAny_Call_Name_kw (thn ((pe_var (X := X.wish W0) (i := 0) hN hv hdb hcd) pins s σ H' (fun v H2 => v = .ref f ∧ H2 = H') I ?_) fun u s2 ⟨v, H2, I2, r, q⟩ => ?_)
 ·exact ⟨.ref f, hσ, rfl, rfl⟩
 obtain ⟨rfl, rfl⟩ := q
 have hu : u = .ref f := r
 subst hu
 have I3 : Inv X pins σ H2 s2 := I2.unwish
 have un : Un (frs X.outer) [] H2 H2 X.s₀.heap s2.heap := by
  have := I3.base
  rw [hex, h0] at this
  exact this
 obtain ⟨oc, od, fd, sl, ho⟩ := hf
 have ho2 := un.keep f _ ho hn hfr (by simp)
 refine PySem.W.callWith_F0 ⟨oc, od, fd, sl, ho2⟩ ?_
 refine wpAny_call (codeAny_mono (run X.A X.stack s2 hr I3.env0 un) fun r s' hc => ?_)
 cases r with
 | error e => exact hW pins σ s2 e s' I3 hc
 | ok fl =>
  cases fl with
  | ret u =>
   obtain ⟨v, H3, J, rv, qv⟩ := I2.after hc
   exact ⟨v, H3, J, rv, hq v H3 qv⟩
  | next => exact False.elim hc
  | brk => exact False.elim hc
  | cont => exact False.elim hc
end
section
variable {X : Cx} {H : Hp} {f M : Addr} {Q : VK} {W : Addr → Option Addr → Hp → List V → Prop} {s1 : Shared}
theorem said_bodyT {wn : Str} {k n : Nat} {i1 i2 : Nat} {p1 p2 p3 p4 p5 p6 p7 p8 p9 p10 p11 p12 : Pos} (stk : X.stack = X.env :: X.outer) (fr : X.env.frame = some X.env.locals) (hex : X.ex = []) (hpn : X.pn = []) (hc : X.calm = true) (h0 : X.H₀ = H) (hN : X.N = [("_law_call" : Str), ("_law_e" : Str)])
  (k0 : X.env.scope.names.lookup ("_law_call" : Str) = some .local) (k1 : X.env.scope.names.lookup ("_law_e" : Str) = some .local) (gM : Gl X "MainError") (gw : Gl X wn) (hM : X.mg "MainError" = some (.ref M))
  (hB : PySem.W.mroIn X.K M (.type "BaseException") = some true) (hT : PySem.W.typeIn X.K (.ref M) = some (.type "type")) (hWM : ∀ C dx H ws, W C dx H ws → PySem.W.mroIn X.K C (.ref M) = some true) (hWe : ∀ C dx H H' ws, W C dx H ws → (∀ b o, H b = some o → H' b = some o) → W C dx H' ws) (Dw : FnQ X.prog X.w X.K X.mg X.base n wn ["_law_e"] (sp_whichT W))
  (hdb : (wn == Str.ofString "__debug__") = false) (hr : Room k X.A) (hn : n ≤ k) (hs : saidSpT X.prog X.w X.K X.mg X.base k W X.outer X.s₀ [.ref f] H Q E0) (I : Inv X [] [some (.ref f), none] H s1) :
  wpAny (model X.prog X.w) X.A (execs [saidTry wn i1 i2 p1 p2 p3 p4 p5 p6 p7 p8 p9 p10 p11 p12] X.env) (fun fl s' => match fl with | .ret u => ∃ v σ H', Inv X [] σ H' s' ∧ RelV v u ∧ Q v H' | _ => False) (fun _ _ => False) s1 := by
 have hfr : X.A.frames = some (X.env :: X.outer) := by rw [← stk]; exact I.ok.frames
 refine wpAny_execs_cons (wpAny_Try_except ?_)
 have hbody : PSs (X.wish fun v s' => ∃ pins σ sc, Inv X pins σ H sc ∧ CXE X.prog X.w X.stack H sc (saidET W Q) v s') [.Return (some (.Tuple [.Constant (.str "told") i1 p1, .Call (.Name "_law_call" p2) [] [] p3] i2 p4)) p5] _ :=
  pss_one (ps_ret (c_tup (pa_cons pe_str (pa_cons (pe_lamcallT (k := k) (by rw [hN]; rfl) (.inl k0) (by decide) (by decide) hex h0 hr hs fun pins σ sc v s' a b => ⟨pins, σ, sc, a, b⟩) pa_nil))))
 refine wpAny_mono (hbody [] s1 [some (.ref f), none] H { nx := fun _ _ => False, rt := Q } (I.wish _) ?_) (fun fl s' z => ?_) fun v s' z => ?_
 ·exact ⟨rfl, rfl, fun v H2 hq p hp => hq p hp⟩
 ·cases fl with
  | ret u =>
   obtain ⟨v, σ', H', J, rv, q⟩ := z
   exact ⟨v, σ', H', J.unwish, rv, q⟩
  | next => obtain ⟨_, _, _, q⟩ := z; exact q.elim
  | brk => obtain ⟨_, _, _, q⟩ := z; exact q.elim
  | cont => obtain ⟨_, _, _, q⟩ := z; exact q.elim
 obtain ⟨pins, σ, sc, Ic0, C, a, H2, dx, rfl, x, ⟨oe0, he0, hdx⟩, C', ws, hC', hw, hq⟩ := z
 cases hC'
 have Ic : Inv X [] σ H sc := Ic0.pins_of fun p hp => absurd hp (by simp)
 obtain ⟨B, t, fl, kB, tB, hHB⟩ := x.fly
 have ff := fl.2.2.1
 have nBa : B.get? a = none := fl.2.1
 have fl0 := fl
 rw [stk] at fl0
 refine wpAny_mono ((tame_noteFrame _ _).any (wpAny_looks_onW (Q := fun _ s2 => ∃ h4, s2 = { s' with heap := h4 } ∧ Heap.HeldW B (X.env :: X.outer) a (.ref C) t X.env.locals h4 ∧ s'.heap.UpToSlots h4) hfr fr fl0 fun h4 held4 up4 => ⟨h4, rfl, held4, up4⟩)) (fun _ s2 z => ?_) fun _ _ z => z
 obtain ⟨⟨h4, rfl, held4, up4⟩, kd4⟩ := z
 refine wpAny_mono ((tame_setFlight _ _).any (wpAny_landsW (Q := fun _ s2 => ∃ h5, s2 = { s' with heap := h5 } ∧ Heap.FlyingW B (X.env :: X.outer) a (.ref C) t h5 ∧ h4.UpToSlots h5) held4 fun h5 fl5 up5 => ⟨h5, rfl, fl5, up5⟩)) (fun _ s2 z => ?_) fun _ _ z => z
 obtain ⟨⟨h5, rfl, fl5, up5⟩, kd5⟩ := z
 have up := up4.trans up5
 have I5 : Inv X [] σ H2 { s' with heap := h5 } := Ic.call' (s' := { s' with heap := h5 }) (ch := []) x.os (settle x.un kB tB ff fl5.1 up) (hHB.kept fl5.1) x.bare fun b z => absurd z (by simp)
 have hA : (X.A.mark (some (.ref a))).frames = some X.stack := I.ok.frames
 have I5h := I5.hot (A := X.A.mark (some (.ref a))) hA
 refine wpAny_handleBy_cons (codeAny_handlers_test ?_) (by intro q; cases q)
 refine ld_glob (X := X.hot (X.A.mark (some (.ref a)))) I5h gM hM ?_
 have at5 : ExcAt h5 a C := by
  obtain ⟨oe, vs, h1, h2, _⟩ := fl5.first
  exact ⟨oe, h1, h2⟩
 refine exc_match I5.kIn at5 (hWM C dx H2 ws hw) hB hT ?_
 refine codeAny_handlers_suite_as ?_
 refine wpAny_mono ((tame_setFlight _ _).any (lands_againW (Q := fun _ s2 => ∃ h6, s2 = { s' with heap := h6 } ∧ Heap.FlyingW B (X.env :: X.outer) a (.ref C) t h6 ∧ h5.UpToSlots h6) fl5 fun h6 fl6 up6 => ⟨h6, rfl, fl6, up6⟩)) (fun _ s2 z => ?_) fun _ _ z => z
 obtain ⟨⟨h6, rfl, fl6, up6⟩, kd6⟩ := z
 have I6 : Inv X [] σ H2 { s' with heap := h6 } := Ic.call' (s' := { s' with heap := h6 }) (ch := []) x.os (settle x.un kB tB ff fl6.1 (up.trans up6)) (hHB.kept fl6.1) x.bare fun b z => absurd z (by simp)
 obtain ⟨oe, vs, he1, he2, he3, _⟩ := fl6.first
 have hdx6 : oe.dict = dx := (((kd4.trans kd5).trans kd6).get he0 he1).trans hdx
 have nH2 : H2 a = none := by
  cases q : H2 a with
  | none => rfl
  | some o =>
   obtain ⟨u, hu⟩ := ObjOk.there (hHB a o q)
   rw [nBa] at hu; cases hu
 have old : ∀ b o, sc.heap.get? b = some o → H b = none → b ∉ frs X.stack → b ≠ a := fun b o e n hb z => by
  have := kB b o e n hb
  rw [z, nBa] at this; cases this
 have frA : a ∉ frs X.stack := fun z => by
  have f6 := fl6.2.2.1
  rw [← stk] at f6
  obtain ⟨_, o', ho', hd⟩ := f6.mem z
  rw [he1] at ho'
  cases ho'
  exact hd vs he3
 have na : a ≠ X.env.locals := fun z => frA (by rw [stk, z]; exact List.mem_filterMap.mpr ⟨X.env, .head _, fr⟩)
 have I7 : Inv X [] σ (upd H2 a (excD a C dx)) { s' with heap := h6 } := by
  refine I6.track na (fun y c e z => ?_) (fun p hp z => ?_) ?_ nH2 ⟨⟨oe, vs, he1, he2, hdx6, he3⟩, ⟨oe, he1⟩, fun h1 h2 ⟨o, vs, e1, e2⟩ k => ⟨o, vs, k o e1, e2⟩⟩
  ·obtain ⟨v, hv⟩ := Ic.cell y c e
   obtain ⟨o, ho, hd⟩ := hv
   refine old c o ho (Ic.freeC y c e) (fun hf => ?_) z
   rcases List.mem_cons.mp (Ic.stkSub c hf) with q | q
   ·exact Ic.cne y c e q
   ·exact absurd q (z ▸ fun q => frA (by rw [stk]; obtain ⟨y', hy, hf'⟩ := List.mem_filterMap.mp q; exact List.mem_filterMap.mpr ⟨y', .tail _ hy, hf'⟩))
  ·rw [hpn] at hp; exact absurd hp (by simp)
  ·cases q : X.s₀.heap.get? a with
   | none => rfl
   | some o =>
    exfalso
    obtain ⟨o1, e1⟩ := Ic.base.there a o q (by rw [hex]; simp)
    obtain ⟨o2, e2⟩ := tB a o1 e1 frA
    rw [nBa] at e2; cases e2
 have hN2 : X.N.Nodup := by rw [hN]; decide
 have hi : X.N[1]? = some ("_law_e" : Str) := by rw [hN]; rfl
 have I7h := I7.hot (A := X.A.mark (some (.ref a))) hA
 refine store_ok (X := X.hot (X.A.mark (some (.ref a)))) (v := .ref a) I7h hN2 hi (.inl k1) rfl (fun s8 I8 => ?_) (.inr k1)
 have hsuite : PSs (X.hot (X.A.mark (some (.ref a)))) [.Return (some (.Call (.Name wn p7) [.Name "_law_e" p8] [] p9)) p10] _ :=
  pss_one (ps_ret (c_callQ (hdb := hdb) (X := X.hot (X.A.mark (some (.ref a)))) Dw ((hr.q.mono hn).mark _) gw (pa_cons (pe_var (i := 1) hi (.inl k1) (by decide) (by decide)) pa_nil)))
 have hσl : 1 < σ.length := by rw [Ic.len, hN]; decide
 refine wpAny_mono (hsuite [] s8 (σ.set 1 (some (.ref a))) (upd H2 a (excD a C dx)) { nx := fun _ _ => False, rt := Q } I8 ?_) (fun fl s9 z => ?_) fun _ _ z => z.elim
 ·refine ⟨.ref a, List.getElem?_set_self hσl, C, dx, ws, upd_same, hWe _ _ _ _ _ hw (fun b o e => by rw [upd_ne (fun z => by rw [z, nH2] at e; cases e)]; exact e), fun H3 t3 e3 h3 => ?_⟩
  exact hq H3 t3 (fun b o e => e3 b o (by rw [upd_ne (fun z => by rw [z, nH2] at e; cases e)]; exact e)) h3
 ·cases fl with
  | ret u =>
   obtain ⟨v, σ', H', J, rv, q⟩ := z
   have J' : Inv X [] σ' H' s9 := Inv.cool I.ok J
   exact goes_ok J' hN2 hi k1 fun s10 I10 => ⟨v, _, H', I10, rv, q⟩
  | next => obtain ⟨_, _, _, q⟩ := z; exact q.elim
  | brk => obtain ⟨_, _, _, q⟩ := z; exact q.elim
  | cont => obtain ⟨_, _, _, q⟩ := z; exact q.elim
end
theorem said_fnT {wn : Str} {P : Program} {w : World} {K : PySem.W.Frag} {mg : Str → Option Value} {base : Heap} {st : Stmt} {k n : Nat} {M : Addr} {W : Addr → Option Addr → Hp → List V → Prop} {i1 i2 : Nat} {p1 p2 p3 p4 p5 p6 p7 p8 p9 p10 p11 p12 : Pos}
  (F : Df K mg "_law_said" st ["_law_call"]) (S : FnScope ["_law_call", "_law_e"] ["_law_call"] (defScope st)) (hb : defBody st = [saidTry wn i1 i2 p1 p2 p3 p4 p5 p6 p7 p8 p9 p10 p11 p12])
  (k0 : (defScope st).names.lookup ("_law_call" : Str) = some .local) (k1 : (defScope st).names.lookup ("_law_e" : Str) = some .local) (gM : (defScope st).names.lookup ("MainError" : Str) = some .globalImplicit) (gw : (defScope st).names.lookup wn = some .globalImplicit)
  (hM : mg "MainError" = some (.ref M)) (hB : PySem.W.mroIn K M (.type "BaseException") = some true) (hT : PySem.W.typeIn K (.ref M) = some (.type "type")) (hWM : ∀ C dx H ws, W C dx H ws → PySem.W.mroIn K C (.ref M) = some true) (hWe : ∀ C dx H H' ws, W C dx H ws → (∀ b o, H b = some o → H' b = some o) → W C dx H' ws)
  (Dw : FnQ P w K mg base n wn ["_law_e"] (sp_whichT W)) (hn : n ≤ k) (hdb : (wn == Str.ofString "__debug__") = false := by decide) : FnS P w K mg base (k + 1) "_law_said" ["_law_call"] (saidSpT P w K mg base k W) := by
 obtain ⟨f, fd, hF, hm, hbd⟩ := F.ex
 have kp := hF.kp
 obtain ⟨oc, od, kV, doc, pm, an, cdv, ct, osl, rfl, lk, hcd⟩ := hF.ex
 refine ⟨f, _, fun A outer s H args us vs Q hr e0 hbt r hsp => ?_, hm, kp, hbd⟩
 have hl : ∃ g, vs = [.ref g] := by
  unfold saidSpT at hsp
  split at hsp
  ·exact ⟨_, rfl⟩
  ·exact hsp.elim
 obtain ⟨g, rfl⟩ := hl
 refine run_def lk hcd S hr.q e0 hbt r rfl fun s1 I => ?_
 have eA : ({ A with handled := none } : Around) = A := by
  obtain ⟨h, d, fs, gs, u⟩ := A
  have : h = none := hr.hd
  subst this
  rfl
 rw [eA] at I
 rw [hb]
 have hr' := hr.deeper (envOfC "_law_said" (defScope st) s.heap.objs.size f cdv)
 have I2 : Inv (cxOf CX0 P w K mg base ["_law_call", "_law_e"] "_law_said" (defScope st) f cdv A outer s H E0) [] [some (.ref g), none] H s1 := I
 refine wpAny_mono (said_bodyT (X := cxOf CX0 P w K mg base ["_law_call", "_law_e"] "_law_said" (defScope st) f cdv A outer s H E0) (k := k) rfl rfl rfl rfl rfl rfl rfl k0 k1 gM gw hM hB hT hWM hWe Dw hdb hr' hn hsp I2) (fun fl s' z => ?_) fun _ _ z => z
 cases fl with
 | ret u =>
  obtain ⟨v, σ, H', J, rv, q⟩ := z
  exact ⟨v, H', J.os, J.bare, J.base, J.hok, rv, q⟩
 | next => exact z.elim
 | brk => exact z.elim
 | cont => exact z.elim
section
variable {X : Cx} {scope : Scope} {N' : List Str} {cap : List (Option Nat)} {P c : Addr} {ql : Str} {params : Arguments} {body : Expr} {lpos p pos : Pos} {W : Addr → Option Addr → Hp → List V → Prop} {k : Nat} {te : XK → TE}
def tSaidT (P : Addr) (ql : Str) (W : Addr → Option Addr → Hp → List V → Prop) (cap : List (Option Nat)) (te : XK → TE) : TE := fun σ H Q => TabIn H P ql ∧ ∀ H1, TabIn H1 P ql → (∀ b o, H b = some o → b ≠ P → H1 b = some o) → te (saidET W Q) (capOf cap σ) H1 (saidQ Q)
theorem pe_saidT (F : FnS X.prog X.w X.K X.mg X.base (k + 1) "_law_said" ["_law_call"] (saidSpT X.prog X.w X.K X.mg X.base k W)) (hr : Room (k + 1) X.A) (hg : Gl X "_law_said") (hfn : ∀ x, X.fn x = true) (hcode : X.env.code = .ref c) (hC : PySem.W.CodeHd X.base c P) (hBu : X.base.BuiltinsAt X.mg P)
  (B : BlockScope X.env.scope X.N scope N' cap) (nc : ∀ x ∈ scope.names, x.2 ≠ .cell) (co : scope.isCoroutine = false) (gen : scope.isGenerator = false) (hq : X.env.qual ++ "<lambda>" = ql) (hdef : defaultsOf params X.env = ([], []))
  (hbind : ∀ clos pm c' ctv, bindArgs (PySem.W.kla_fn "<lambda>" ql params body scope clos pm (.ref c') ctv) ⟨[], []⟩ = pure [])
  (hbody : ∀ (A : Around) (outer : List Env) (s : Shared) (H : Hp) (f c' : Addr) (E : XK), Room k A → PE (lamCx X.prog X.w X.K X.mg X.base N' ql scope f (.ref c') (clo X.env.cells scope.names []) A outer s H E) body (te E))
  (he : starEach [.Lambda params body scope lpos] X.env = (false, eval (.Lambda params body scope lpos) X.env) :: starEach [] X.env := by rfl) (hpl : (backTo pos (starEach [] X.env)).any (·.1) = false := by rfl) :
  PE X (.Call (.Name "_law_said" p) [.Lambda params body scope lpos] [] pos) (tSaidT P ql W cap te) := by
 intro pins s σ H Q I ⟨hT, hqq⟩
 obtain ⟨f0, fd, run, hm, hk, hb⟩ := F.ex
 refine wpAny_Call_Name_kw (ld_glob I hg hm ?_ (by decide))
 refine PySem.W.callWith_K (h₀ := X.base) I.ok.mod.kin hk (spliced_more (lam_make I hT hcode hC hBu B hq hdef fun s1 H1 f c' pm ctv I1 T1 k1 n1 n2 o1 c1 => spliced_none ⟨I1.kIn, ?_⟩)) he hpl
 have hbb := hb s1 [.ref f] I1.kIn rfl
 refine wpAny_call (codeAny_mono (run X.A X.stack s1 H1 ⟨[.ref f], []⟩ [.ref f] [.ref f] Q hr I1.env0 hbb (.cons rfl .nil) ?_) fun r s' hq => ?_)
 ·refine ⟨⟨_, _, _, _, o1⟩, n1, n2, fun A' outer' s' hr' e' un => ?_⟩
  refine lam_run I1 B nc co gen hr' e' (fun x cc v e ic => ?_) (un.keep f _ o1 n1 n2 (by simp)) (e'.hok c' _ c1).1 (hbind _ _ _ _) (hbody A' outer' s' H1 f c' _ hr') (hqq H1 T1 k1)
  obtain ⟨o, ho, hd⟩ := ic
  refine ⟨o, un.keep cc o ho (I1.freeC x cc e) (fun z => ?_) (by simp), hd⟩
  rcases List.mem_cons.mp (I1.stkSub cc z) with q | q
  ·exact I1.cne x cc e q
  ·obtain ⟨_, o', ho', _⟩ := I1.ok.funs.mem q
   exact absurd (Nat.lt_of_lt_of_le (Heap.lt_size ho') (I1.ok.cab x cc (hfn x) e)) (Nat.lt_irrefl _)
 ·cases r with
  | error e => exact hq.elim
  | ok fl =>
   cases fl with
   | ret u => exact I1.after hq
   | next => exact False.elim hq
   | brk => exact False.elim hq
   | cont => exact False.elim hq
end
end L2

end

section
namespace L2
open PySem PySem.Spec PyProof.Rows
end L2

end

section
namespace L2
open PySem PySem.Spec PyProof.Rows
abbrev KL := List (Key × V)
section
variable {prog : Program} {w : World} {A : Around} {R : Result → Shared → Prop} {s : Shared} {kx vx tg it : Expr} {ifs : List Expr} {sc : Scope} {ps : Pos} {itv : Value} {D : Addr} {env : Env}
end
structure GrownD (Y : Cx) (a : Addr) (PB : List (Addr × Obj)) (σ : St) (zs : KL) (H : Hp) (s : Shared) : Prop where
 inv : Inv Y PB σ H s
 no : H a = none
 len : zs.length ≤ sizeLine
 at' : ∃ o vs, s.heap.get? a = some o ∧ KV zs vs ∧ s.heap.DictOf (mixKind Y.prog Y.w) a vs
end L2

end

section
namespace L2
open PySem PySem.Spec PyProof.Rows
section
variable {prog : Program} {w : World} {A : Around} {E : Value → Shared → Prop} {s : Shared}
end
section
variable {X : Cx} {tg : Expr}
end
end L2

end

section
namespace L2
open PySem PySem.Spec PyProof.Rows
def Zd (H : Hp) (Ts : List Addr) (xs ys : List V) : Prop := ∀ (j : Nat) (T : Addr) (x y : V), Ts[j]? = some T → xs[j]? = some x → ys[j]? = some y → H T = some (.tup [x, y])
structure LzS {X : Cx} (S1 S2 : SeqK X.prog X.w X.K) (pins : List (Addr × Obj)) (σ : St) (z TI TO i1 i2 l1 l2 S : Addr) (xs ys : List V) (i : Nat) (s : Shared) (H : Hp) (Ts : List Addr) (c : Nat) : Prop where
 I : Inv X pins σ H s
 fp : ∀ b ∈ [z, TI, TO, i1, i2, S], FpOk X pins H b
 z : ZipAny s.heap z TI TO
 ti : IsT2 s.heap TI (.ref i1) (.ref i2)
 to : ∃ a b, IsT2 s.heap TO a b
 i1 : S1.It s.heap i1 l1 i
 i2 : S2.It s.heap i2 l2 i
 s1 : S1.Sq H l1 xs
 s2 : S2.Sq H l2 ys
 l : s.heap.get? S = some { cls := .type "list", dict := none, data := .seq (Ts.map Value.ref).toArray c, slots := #[] }
 n : Ts.length = i
 zd : Zd H Ts xs ys
section
variable {prog : Program} {w : World} {A : Around} {s : Shared} {R : Result → Shared → Prop} {E : Value → Shared → Prop}
structure NilAt (S : Addr) (g g' : Heap) : Prop where
 it : ∃ c, g'.get? S = some { cls := .type "list", dict := none, data := .seq #[] c, slots := #[] }
 kp : KpBut S g g'
 sz : g'.objs.size = g.objs.size
end
set_option maxHeartbeats 8000000 in
theorem zn_LT (P : Program) (w : World) (K : PySem.W.Frag) : ZipNew2 (seqL P w K) (seqT P w K) := ⟨trivial, trivial, fun l1 l2 xs1 xs2 =>
 .of_wp fun prog w A R s h => by
  obtain ⟨hp, g, d, tk, os⟩ := s; obtain ⟨hl1, hl2, h⟩ := h; have hsub := sub_zip
  have hL1 : Heap.IsList (Shared.heap ⟨hp, g, d, tk, os⟩) l1 xs1 := hl1
  have hL2 : Heap.IsTuple (Shared.heap ⟨(hp).push { cls := .type "list_iterator", data := .fields #[.ref l1, .int 0 0] }, g, d, tk, os⟩) l2 xs2 := Heap.IsTuple.push (hl2) _
  wp_walk using wpAny_pyIter_list hL1, wpAny_pyIter_tuple hL2
  exact ⟨_, rfl, h⟩⟩
theorem piZLT (P : Program) (w : World) (K : PySem.W.Frag) {X : Cx} {es : List Expr} {k : Nat} {p pos pos' : Pos} {e1 e2 : Expr} {ta : TA} (hg : Gl X "zip") (hm : X.mg "zip" = none) (ha : PA X [e1, e2] ta) (hP : X.prog = P := by rfl) (hw : X.w = w := by rfl) (hK : X.K = K := by rfl)
  (hs : starEach [e1, e2] X.env = [(false, eval e1 X.env), (false, eval e2 X.env)] := by rfl) (hs2 : starEach [e2] X.env = [(false, eval e2 X.env)] := by rfl) :
  PI X (.Tuple es k pos') (.Call (.Name "zip" p) [e1, e2] [] pos) (iZip (seqL P w K) (seqT P w K) ta) := by subst hP hw hK; exact pi_zip2 _ _ (zn_LT _ _ _) hg hm ha hs hs2
end L2

end

section
namespace MF
open PySem PySem.Spec PyProof.Rows L2
def top (i : Nat) : Stmt := PySem.Challenge.pw_mainfires_k91_firings_as_texts.main.body.getD i (.Pass ⟨0, 0, 0, 0⟩)
abbrev s_is_whole : Stmt := top 22
abbrev s_is_whole_from : Stmt := top 23
abbrev s_is_tuple_of : Stmt := top 24
abbrev s_is_plant : Stmt := top 33
abbrev s_are_boilers : Stmt := top 34
abbrev s_is_make_and_coal : Stmt := top 35
abbrev s_are_engines : Stmt := top 36
abbrev s_is_engine : Stmt := top 37
abbrev s_is_main : Stmt := top 38
abbrev s_need_plant : Stmt := top 39
abbrev s_is_story : Stmt := top 40
abbrev s_is_fault : Stmt := top 41
abbrev s_need_story : Stmt := top 42
abbrev s_caps_of : Stmt := top 43
abbrev s_caps_in : Stmt := top 44
abbrev s_words_for : Stmt := top 45
abbrev s_cap_under : Stmt := top 46
abbrev s_is_firing : Stmt := top 47
abbrev s_is_firing_within : Stmt := top 48
abbrev s_is_row : Stmt := top 49
abbrev s_need_firing : Stmt := top 50
abbrev s_firing_text : Stmt := top 52
abbrev s_firing_read : Stmt := top 53
abbrev s_is_row_text : Stmt := top 54
abbrev s_is_number_text : Stmt := top 55
abbrev s__law_cell : Stmt := top 57
abbrev s__law_pen : Stmt := top 58
abbrev s__law_draw : Stmt := top 59
abbrev s__law_plant : Stmt := top 60
abbrev s__law_story : Stmt := top 61
abbrev s__law_caps : Stmt := top 62
abbrev s__law_firing : Stmt := top 63
abbrev s__law_text : Stmt := top 64
abbrev s__law_odd : Stmt := top 65
abbrev s__law_kind : Stmt := top 66
abbrev s__law_said : Stmt := top 67
abbrev s__law_row : Stmt := top 68
abbrev s__law_due : Stmt := top 69
abbrev s__law_bent : Stmt := top 70
abbrev s__law_texts : Stmt := top 71
abbrev s_law : Stmt := top 72
structure Tx (mg : Str → Option Value) : Prop where
 b_ValueError : mg "ValueError" = none
 b_all : mg "all" = none
 b_bool : mg "bool" = none
 b_divmod : mg "divmod" = none
 b_enumerate : mg "enumerate" = none
 b_int : mg "int" = none
 b_isinstance : mg "isinstance" = none
 b_len : mg "len" = none
 b_max : mg "max" = none
 b_min : mg "min" = none
 b_range : mg "range" = none
 b_repr : mg "repr" = none
 b_str : mg "str" = none
 b_tuple : mg "tuple" = none
 b_zip : mg "zip" = none
 g_MOST_BOILERS : ∃ t, mg "MOST_BOILERS" = some (.int 4 t)
 g_MOST_ENGINES : ∃ t, mg "MOST_ENGINES" = some (.int 4 t)
 g_MOST_FAULTS : ∃ t, mg "MOST_FAULTS" = some (.int 4 t)
 g_MOST_HOURS : ∃ t, mg "MOST_HOURS" = some (.int 8 t)
 g_MOST_UNITS : ∃ t, mg "MOST_UNITS" = some (.int 9 t)
 g_MOST_EXTRA : ∃ t, mg "MOST_EXTRA" = some (.int 20 t)
 g_MOST_IN_MAIN : ∃ t, mg "MOST_IN_MAIN" = some (.int 40 t)
def isWhole : PyData → Bool | .int _ => true | _ => false
def isWF (d : PyData) (lo hi : Int) : Bool := match d with | .int i => decide (lo ≤ i) && decide (i ≤ hi) | _ => false
def isTO (d : PyData) (lo hi : Int) : Bool := match d with | .tuple ds => decide (lo ≤ (ds.length : Int)) && decide ((ds.length : Int) ≤ hi) | _ => false
def sp_is_whole : Sp := fun vs H Q _ => match vs with | [v] => ∃ p d, Rep p H d v ∧ ∀ b, b = isWhole d → Q (.bl b) H | _ => False
def sp_is_whole_from : Sp := fun vs H Q _ => match vs with | [v, .int lo, .int hi] => ∃ p d, Rep p H d v ∧ ∀ b, b = isWF d lo hi → Q (.bl b) H | _ => False
def sp_is_tuple_of : Sp := fun vs H Q _ => match vs with | [v, .int lo, .int hi] => ∃ p d, Rep p H d v ∧ ∀ b, b = isTO d lo hi → Q (.bl b) H | _ => False
section
variable {P : Program} {w : World} {K : PySem.W.Frag} {mg : Str → Option Value} {base : Heap}
theorem sc_is_whole : FnScope ["thing"] ["thing"] (defScope s_is_whole) := ⟨rfl, rfl, rfl, by decide +kernel, rfl, by decide +kernel, by decide +kernel⟩
theorem ok_is_whole (F : Df K mg "is_whole" s_is_whole ["thing"]) (T : Tx mg)  : Fn P w K mg base 1 "is_whole" ["thing"] sp_is_whole := by
 refine F.fn sc_is_whole (fun vs H Q E h => ?_) (fun f cdv A outer s H vs Q E hr h => ?_)
 ·unfold sp_is_whole at h; split at h; rfl; exact h.elim
 refine ⟨_, (pss_one (ps_ret (c_andV (pe_callB call_isi rfl T.b_isinstance boot_isinstance (pb2 (cy 0) (pe_bltn (v := .ty "int") rfl T.b_int L2.boot_int rfl))) (pe_one (c_notV (pe_callB call_isi rfl T.b_isinstance boot_isinstance (pb2 (cy 0) (pe_bltn (v := .ty "bool") rfl T.b_bool L2.boot_bool rfl)))))))), ?_⟩
 unfold sp_is_whole at h
 split at h
 ·rename_i v
  obtain ⟨p, d, r, q⟩ := h
  refine ⟨_, r.ty, .inl rfl, ⟨fun c => ⟨_, r.ty, .inr (.inl rfl), ?_⟩, fun c => ?_⟩⟩
  ·exact q _ (by cases d <;> first | rfl | cases c)
  ·exact q _ (by cases d <;> first | rfl | cases c)
 ·exact h.elim
theorem sc_is_whole_from : FnScope ["thing", "least", "most"] ["thing", "least", "most"] (defScope s_is_whole_from) := ⟨rfl, rfl, rfl, by decide +kernel, rfl, by decide +kernel, by decide +kernel⟩
theorem ok_is_whole_from (F : Df K mg "is_whole_from" s_is_whole_from ["thing", "least", "most"]) (T : Tx mg) (D_is_whole : Fn P w K mg base 1 "is_whole" ["thing"] sp_is_whole) : Fn P w K mg base 2 "is_whole_from" ["thing", "least", "most"] sp_is_whole_from := by
 refine F.fn sc_is_whole_from (fun vs H Q E h => ?_) (fun f cdv A outer s H vs Q E hr h => ?_)
 ·unfold sp_is_whole_from at h; split at h; rfl; exact h.elim
 refine ⟨_, (pss_one (ps_ret (c_andV (c_call D_is_whole (hr.mono (by decide)) rfl (pb1 (cy 0))) (pe_one (c_chain o_le o_le (cy 1) (cy 0) (cy 2)))))), ?_⟩
 unfold sp_is_whole_from at h
 split at h
 ·rename_i v lo hi
  obtain ⟨p, d, r, q⟩ := h
  refine ⟨p, d, r, fun b hb => ⟨fun c => ?_, fun c => ?_⟩⟩
  ·subst c
   cases d <;> first | cases hb | skip
   rename_i i
   unfold Rep at r
   subst r
   refine ⟨fun c => ?_, fun c => ?_⟩
   ·exact q _ (by unfold isWF; dsimp only; rw [c]; rfl)
   ·exact q _ (by unfold isWF; dsimp only; rw [c]; rfl)
  ·subst c
   exact q _ (by cases d <;> first | rfl | cases hb)
 ·exact h.elim
theorem sc_is_tuple_of : FnScope ["thing", "fewest", "most"] ["thing", "fewest", "most"] (defScope s_is_tuple_of) := ⟨rfl, rfl, rfl, by decide +kernel, rfl, by decide +kernel, by decide +kernel⟩
theorem ok_is_tuple_of (F : Df K mg "is_tuple_of" s_is_tuple_of ["thing", "fewest", "most"]) (T : Tx mg)  : Fn P w K mg base 1 "is_tuple_of" ["thing", "fewest", "most"] sp_is_tuple_of := by
 refine F.fn sc_is_tuple_of (fun vs H Q E h => ?_) (fun f cdv A outer s H vs Q E hr h => ?_)
 ·unfold sp_is_tuple_of at h; split at h; rfl; exact h.elim
 refine ⟨_, (pss_one (ps_ret (c_andV (pe_callB call_isi rfl T.b_isinstance boot_isinstance (pb2 (cy 0) (pe_bltn (v := .ty "tuple") rfl T.b_tuple boot_tuple' rfl))) (pe_one (c_chain o_le o_le (cy 1) (pe_callB (lenS K) rfl T.b_len PySem.boot_len (pb1 (cy 0))) (cy 2)))))), ?_⟩
 unfold sp_is_tuple_of at h
 split at h
 ·rename_i v lo hi
  obtain ⟨p, d, r, q⟩ := h
  refine ⟨_, r.ty, .inr (.inr (.inl rfl)), ⟨fun c => ?_, fun c => ?_⟩⟩
  ·cases d <;> first | cases c | skip
   rename_i ds
   unfold Rep at r
   obtain ⟨a, xs, rfl, ha, rs⟩ := r
   refine ⟨a, xs, rfl, .inr (SqT.of ha), ?_⟩
   rw [← rs.len]
   refine ⟨fun c => ?_, fun c => ?_⟩
   ·exact q _ (by unfold isTO; dsimp only; rw [c]; rfl)
   ·exact q _ (by unfold isTO; dsimp only; rw [c]; rfl)
  ·exact q _ (by cases d <;> first | rfl | cases c)
 ·exact h.elim
end
end MF

end

section
namespace MF
open PySem PySem.Spec PyProof.Rows L2
theorem take_map {α β : Type} {ds : List α} {i : Nat} {d : α} (f : α → β) (h : ds[i]? = some d) : (ds.take (i + 1)).map f = (ds.take i).map f ++ [f d] := by
 rw [List.take_add_one, h, List.map_append]; rfl
def isMC (d : PyData) : Bool := match d with | .tuple [a, b] => isWF a 1 9 && isWF b 1 9 | _ => false
def isEng (d : PyData) : Bool := match d with | .tuple [a, b, c] => isWF a 1 9 && isWF b 0 7 && isWF c 1 8 | _ => false
def isMain (d : PyData) : Bool := match d with
 | .tuple [a, b, c] => isWF b 0 40 && match b with | .int hi => isWF c 0 hi && (match c with | .int st => isWF a 0 st | _ => false) | _ => false
 | _ => false
def isBoilers (d : PyData) : Bool := match d with | .tuple ds => isTO d 1 4 && ds.all isMC | _ => false
def isEngines (d : PyData) : Bool := match d with | .tuple ds => isTO d 0 4 && ds.all isEng | _ => false
def isPlant (d : PyData) : Bool := match d with | .tuple [a, b, c] => isBoilers a && isEngines b && isMain c | _ => false
def spLook (f : PyData → Bool) : Sp := fun vs H Q _ => match vs with | [v] => ∃ p d, Rep p H d v ∧ ∀ b H', b = f d → Same H H' → Q (.bl b) H' | _ => False
theorem spLook_len {f : PyData → Bool} {vs H Q E} (h : spLook f vs H Q E) : vs.length = 1 := by unfold spLook at h; split at h; rfl; exact h.elim
abbrev sp_is_make_and_coal : Sp := spLook isMC
abbrev sp_is_engine : Sp := spLook isEng
abbrev sp_is_main : Sp := spLook isMain
abbrev sp_are_boilers : Sp := spLook isBoilers
abbrev sp_are_engines : Sp := spLook isEngines
abbrev sp_is_plant : Sp := spLook isPlant
theorem len_is_make_and_coal {vs H Q E} (h : sp_is_make_and_coal vs H Q E) : vs.length = 1 := spLook_len h
theorem len_is_engine {vs H Q E} (h : sp_is_engine vs H Q E) : vs.length = 1 := spLook_len h
theorem len_is_main {vs H Q E} (h : sp_is_main vs H Q E) : vs.length = 1 := spLook_len h
theorem len_are_boilers {vs H Q E} (h : sp_are_boilers vs H Q E) : vs.length = 1 := spLook_len h
theorem len_are_engines {vs H Q E} (h : sp_are_engines vs H Q E) : vs.length = 1 := spLook_len h
theorem len_is_plant {vs H Q E} (h : sp_is_plant vs H Q E) : vs.length = 1 := spLook_len h
theorem two {ds : List PyData} (h : isTO (.tuple ds) 2 2 = true) : ∃ a b, ds = [a, b] := by
 unfold isTO at h; simp only [Bool.and_eq_true, decide_eq_true_eq] at h
 match ds, h with
 | [a, b], _ => exact ⟨a, b, rfl⟩
 | [], h => simp at h
 | [_], h => simp at h
 | _ :: _ :: _ :: _, h => simp at h; omega
theorem three {ds : List PyData} (h : isTO (.tuple ds) 3 3 = true) : ∃ a b c, ds = [a, b, c] := by
 unfold isTO at h; simp only [Bool.and_eq_true, decide_eq_true_eq] at h
 match ds, h with
 | [a, b, c], _ => exact ⟨a, b, c, rfl⟩
 | [], h => simp at h
 | [_], h => simp at h
 | [_, _], h => simp at h
 | _ :: _ :: _ :: _ :: _, h => simp at h; omega
theorem isTO_tup {d : PyData} {lo hi : Int} (h : isTO d lo hi = true) : ∃ ds, d = .tuple ds := by
 cases d <;> first | exact ⟨_, rfl⟩ | cases h
theorem Rep.shape {p : Addr} {H : Hp} {ds : List PyData} {v : V} (r : Rep p H (.tuple ds) v) : ∃ a xs, v = .ref a ∧ H a = some (.tup xs) ∧ Reps p H ds xs := by unfold Rep at r; exact r
theorem Reps.two {p : Addr} {H : Hp} {a b : PyData} {xs : List V} (r : Reps p H [a, b] xs) : ∃ x y, xs = [x, y] ∧ Rep p H a x ∧ Rep p H b y := by
 unfold Reps at r; obtain ⟨x, s, rfl, hx, r⟩ := r; unfold Reps at r; obtain ⟨y, s, rfl, hy, r⟩ := r; unfold Reps at r; subst r; exact ⟨x, y, rfl, hx, hy⟩
theorem Reps.three {p : Addr} {H : Hp} {a b c : PyData} {xs : List V} (r : Reps p H [a, b, c] xs) : ∃ x y z, xs = [x, y, z] ∧ Rep p H a x ∧ Rep p H b y ∧ Rep p H c z := by
 unfold Reps at r; obtain ⟨x, s, rfl, hx, r⟩ := r; obtain ⟨y, z, rfl, hy, hz⟩ := Reps.two r; exact ⟨x, y, z, rfl, hx, hy, hz⟩
section
variable {P : Program} {w : World} {K : PySem.W.Frag} {mg : Str → Option Value} {base : Heap}
theorem sc_is_make_and_coal : FnScope ["thing", "make", "coal"] ["thing"] (defScope s_is_make_and_coal) := ⟨rfl, rfl, rfl, by decide +kernel, rfl, by decide +kernel, by decide +kernel⟩
theorem ok_is_make_and_coal (F : Df K mg "is_make_and_coal" s_is_make_and_coal ["thing"]) (T : Tx mg) (D_is_tuple_of : Fn P w K mg base 1 "is_tuple_of" ["thing", "fewest", "most"] sp_is_tuple_of) (D_is_whole_from : Fn P w K mg base 2 "is_whole_from" ["thing", "least", "most"] sp_is_whole_from) : Fn P w K mg base 3 "is_make_and_coal" ["thing"] sp_is_make_and_coal := by
 obtain ⟨t_MOST_UNITS, g_MOST_UNITS⟩ := T.g_MOST_UNITS
 refine F.fn sc_is_make_and_coal (fun vs H Q E h => ?_) (fun f cdv A outer s H vs Q E hr h => ?_)
 ·exact len_is_make_and_coal h
 refine ⟨_, (pss_cons (c_if (pt_not (c_val (c_call D_is_tuple_of (hr.mono (by decide)) rfl (pb3 (cy 0) pe_int pe_int)))) (pss_one (ps_ret pe_bl)) pss_nil) (pss_cons (ps_asg (cy 0) (pgT K (n := 2) (pgs_cons (pgy 1 sc_is_make_and_coal.nd) (pgs_cons (pgy 2 sc_is_make_and_coal.nd) pgs_nil)))) (pss_one (ps_ret (c_andV (c_call D_is_whole_from (hr.mono (by decide)) rfl (pb3 (cy 1) pe_int (pe_glob (v := .int 9) rfl g_MOST_UNITS ⟨t_MOST_UNITS, rfl⟩))) (pe_one (c_call D_is_whole_from (hr.mono (by decide)) rfl (pb3 (cy 2) pe_int (pe_glob (v := .int 9) rfl g_MOST_UNITS ⟨t_MOST_UNITS, rfl⟩))))))))), ?_⟩
 unfold sp_is_make_and_coal spLook at h
 split at h
 ·rename_i v
  obtain ⟨p, d, r, q⟩ := h
  refine ⟨p, d, r, fun b hb => ⟨fun c => ?_, fun c => ?_⟩⟩
  ·refine q false H ?_ (Same.refl _)
   have e : isTO d 2 2 = false := by rw [← hb]; simpa using c
   cases d <;> first | rfl | skip
   rename_i ds
   match ds, e with
   | [a, b], e => cases e
   | [], _ => rfl
   | [_], _ => rfl
   | _ :: _ :: _ :: _, _ => rfl
  ·have e : isTO d 2 2 = true := by rw [← hb]; simpa using c
   obtain ⟨ds, rfl⟩ := isTO_tup e
   obtain ⟨a, b, rfl⟩ := two e
   obtain ⟨l, xs, rfl, hl, rs⟩ := Rep.shape r
   obtain ⟨x, y, rfl, rx, ry⟩ := Reps.two rs
   refine ⟨l, [x, y], rfl, SqT.of hl, rfl, x, [y], rfl, y, [], rfl, rfl, p, a, rx, fun b1 e1 => ⟨fun c => ⟨p, b, ry, fun b2 e2 => ?_⟩, fun c => ?_⟩⟩
   ·exact q _ _ (by unfold isMC; dsimp only; rw [e2, ← e1, c]; rfl) (Same.refl _)
   ·exact q _ _ (by unfold isMC; dsimp only; rw [← e1, c]; rfl) (Same.refl _)
 ·exact h.elim
theorem sc_is_engine : FnScope ["thing", "draw", "first", "every"] ["thing"] (defScope s_is_engine) := ⟨rfl, rfl, rfl, by decide +kernel, rfl, by decide +kernel, by decide +kernel⟩
theorem ok_is_engine (F : Df K mg "is_engine" s_is_engine ["thing"]) (T : Tx mg) (D_is_tuple_of : Fn P w K mg base 1 "is_tuple_of" ["thing", "fewest", "most"] sp_is_tuple_of) (D_is_whole_from : Fn P w K mg base 2 "is_whole_from" ["thing", "least", "most"] sp_is_whole_from) : Fn P w K mg base 3 "is_engine" ["thing"] sp_is_engine := by
 obtain ⟨t_MOST_HOURS, g_MOST_HOURS⟩ := T.g_MOST_HOURS
 obtain ⟨t_MOST_UNITS, g_MOST_UNITS⟩ := T.g_MOST_UNITS
 refine F.fn sc_is_engine (fun vs H Q E h => ?_) (fun f cdv A outer s H vs Q E hr h => ?_)
 ·exact len_is_engine h
 refine ⟨_, (pss_cons (c_if (pt_not (c_val (c_call D_is_tuple_of (hr.mono (by decide)) rfl (pb3 (cy 0) pe_int pe_int)))) (pss_one (ps_ret pe_bl)) pss_nil) (pss_cons (ps_asg (cy 0) (pgT K (n := 3) (pgs_cons (pgy 1 sc_is_engine.nd) (pgs_cons (pgy 2 sc_is_engine.nd) (pgs_cons (pgy 3 sc_is_engine.nd) pgs_nil))))) (pss_one (ps_ret (c_andV (c_call D_is_whole_from (hr.mono (by decide)) rfl (pb3 (cy 1) pe_int (pe_glob (v := .int 9) rfl g_MOST_UNITS ⟨t_MOST_UNITS, rfl⟩))) (c_andV (c_call D_is_whole_from (hr.mono (by decide)) rfl (pb3 (cy 2) pe_int (pe_op o_sub (pe_glob (v := .int 8) rfl g_MOST_HOURS ⟨t_MOST_HOURS, rfl⟩) pe_int))) (pe_one (c_call D_is_whole_from (hr.mono (by decide)) rfl (pb3 (cy 3) pe_int (pe_glob (v := .int 8) rfl g_MOST_HOURS ⟨t_MOST_HOURS, rfl⟩)))))))))), ?_⟩
 unfold sp_is_engine spLook at h
 split at h
 ·rename_i v
  obtain ⟨p, d, r, q⟩ := h
  refine ⟨p, d, r, fun b hb => ⟨fun c => ?_, fun c => ?_⟩⟩
  ·refine q false H ?_ (Same.refl _)
   have e : isTO d 3 3 = false := by rw [← hb]; simpa using c
   cases d <;> first | rfl | skip
   rename_i ds
   match ds, e with
   | [a, b, c], e => cases e
   | [], _ => rfl
   | [_], _ => rfl
   | [_, _], _ => rfl
   | _ :: _ :: _ :: _ :: _, _ => rfl
  ·have e : isTO d 3 3 = true := by rw [← hb]; simpa using c
   obtain ⟨ds, rfl⟩ := isTO_tup e
   obtain ⟨a, b, c', rfl⟩ := three e
   obtain ⟨l, xs, rfl, hl, rs⟩ := Rep.shape r
   obtain ⟨x, y, z, rfl, rx, ry, rz⟩ := Reps.three rs
   refine ⟨l, [x, y, z], rfl, SqT.of hl, rfl, x, [y, z], rfl, y, [z], rfl, z, [], rfl, rfl, p, a, rx, fun b1 e1 => ⟨fun c => ⟨p, b, ry, fun b2 e2 => ⟨fun c2 => ⟨p, c', rz, fun b3 e3 => ?_⟩, fun c2 => ?_⟩⟩, fun c => ?_⟩⟩
   ·exact q _ _ (by unfold isEng; dsimp only; rw [e3, ← e1, c]; rw [show isWF b 0 7 = true from by rw [← c2, e2]; rfl]; rfl) (Same.refl _)
   ·exact q _ _ (by unfold isEng; dsimp only; rw [← e1, c]; rw [show isWF b 0 7 = false from by rw [← c2, e2]; rfl]; rfl) (Same.refl _)
   ·exact q _ _ (by unfold isEng; dsimp only; rw [← e1, c]; rfl) (Same.refl _)
 ·exact h.elim
theorem sc_is_main : FnScope ["thing", "low", "high", "start"] ["thing"] (defScope s_is_main) := ⟨rfl, rfl, rfl, by decide +kernel, rfl, by decide +kernel, by decide +kernel⟩
theorem ok_is_main (F : Df K mg "is_main" s_is_main ["thing"]) (T : Tx mg) (D_is_tuple_of : Fn P w K mg base 1 "is_tuple_of" ["thing", "fewest", "most"] sp_is_tuple_of) (D_is_whole_from : Fn P w K mg base 2 "is_whole_from" ["thing", "least", "most"] sp_is_whole_from) : Fn P w K mg base 3 "is_main" ["thing"] sp_is_main := by
 obtain ⟨t_MOST_IN_MAIN, g_MOST_IN_MAIN⟩ := T.g_MOST_IN_MAIN
 refine F.fn sc_is_main (fun vs H Q E h => ?_) (fun f cdv A outer s H vs Q E hr h => ?_)
 ·exact len_is_main h
 refine ⟨_, (pss_cons (c_if (pt_not (c_val (c_call D_is_tuple_of (hr.mono (by decide)) rfl (pb3 (cy 0) pe_int pe_int)))) (pss_one (ps_ret pe_bl)) pss_nil) (pss_cons (ps_asg (cy 0) (pgT K (n := 3) (pgs_cons (pgy 1 sc_is_main.nd) (pgs_cons (pgy 2 sc_is_main.nd) (pgs_cons (pgy 3 sc_is_main.nd) pgs_nil))))) (pss_one (ps_ret (c_andV (c_call D_is_whole_from (hr.mono (by decide)) rfl (pb3 (cy 2) pe_int (pe_glob (v := .int 40) rfl g_MOST_IN_MAIN ⟨t_MOST_IN_MAIN, rfl⟩))) (c_andV (c_call D_is_whole_from (hr.mono (by decide)) rfl (pb3 (cy 3) pe_int (cy 2))) (pe_one (c_call D_is_whole_from (hr.mono (by decide)) rfl (pb3 (cy 1) pe_int (cy 3)))))))))), ?_⟩
 unfold sp_is_main spLook at h
 split at h
 ·rename_i v
  obtain ⟨p, d, r, q⟩ := h
  refine ⟨p, d, r, fun b hb => ⟨fun c => ?_, fun c => ?_⟩⟩
  ·refine q false H ?_ (Same.refl _)
   have e : isTO d 3 3 = false := by rw [← hb]; simpa using c
   cases d <;> first | rfl | skip
   rename_i ds
   match ds, e with
   | [a, b, c], e => cases e
   | [], _ => rfl
   | [_], _ => rfl
   | [_, _], _ => rfl
   | _ :: _ :: _ :: _ :: _, _ => rfl
  ·have e : isTO d 3 3 = true := by rw [← hb]; simpa using c
   obtain ⟨ds, rfl⟩ := isTO_tup e
   obtain ⟨a, b, c', rfl⟩ := three e
   obtain ⟨l, xs, rfl, hl, rs⟩ := Rep.shape r
   obtain ⟨x, y, z, rfl, rx, ry, rz⟩ := Reps.three rs
   refine ⟨l, [x, y, z], rfl, SqT.of hl, rfl, x, [y, z], rfl, y, [z], rfl, z, [], rfl, rfl, p, b, ry, fun b1 e1 => ⟨fun c1 => ?_, fun c1 => ?_⟩⟩
   ·rw [c1] at e1
    cases b <;> first | cases e1 | skip
    rename_i hi
    unfold Rep at ry
    subst ry
    refine ⟨p, c', rz, fun b2 e2 => ⟨fun c2 => ?_, fun c2 => ?_⟩⟩
    ·rw [c2] at e2
     cases c' <;> first | cases e2 | skip
     rename_i st
     unfold Rep at rz
     subst rz
     refine ⟨p, a, rx, fun b3 e3 => ?_⟩
     exact q _ _ (by unfold isMain; dsimp only; rw [e3]; rw [← e1, ← e2]; rfl) (Same.refl _)
    ·exact q _ _ (by unfold isMain; dsimp only; rw [← e1, ← e2, c2]; rfl) (Same.refl _)
   ·exact q _ _ (by unfold isMain; dsimp only; rw [← e1, c1]; rfl) (Same.refl _)
 ·exact h.elim
theorem sc_are_boilers : FnScope ["thing"] ["thing"] (defScope s_are_boilers) := ⟨rfl, rfl, rfl, by decide +kernel, rfl, by decide +kernel, by decide +kernel⟩
theorem ok_are_boilers (F : Df K mg "are_boilers" s_are_boilers ["thing"]) (T : Tx mg) (D_is_make_and_coal : Fn P w K mg base 3 "is_make_and_coal" ["thing"] sp_is_make_and_coal) (D_is_tuple_of : Fn P w K mg base 1 "is_tuple_of" ["thing", "fewest", "most"] sp_is_tuple_of) : Fn P w K mg base 4 "are_boilers" ["thing"] sp_are_boilers := by
 obtain ⟨t_MOST_BOILERS, g_MOST_BOILERS⟩ := T.g_MOST_BOILERS
 refine F.fn sc_are_boilers (fun vs H Q E h => ?_) (fun f cdv A outer s H vs Q E hr h => ?_)
 ·exact len_are_boilers h
 refine ⟨_, (pss_one (ps_ret (c_andV (c_call D_is_tuple_of (hr.mono (by decide)) rfl (pb3 (cy 0) pe_int (pe_glob (v := .int 4) rfl g_MOST_BOILERS ⟨t_MOST_BOILERS, rfl⟩))) (pe_one (pe_callB (call_all rfl) rfl T.b_all boot_all (pb1 (pe_comp ["part"] [none] rfl (piT K (cy 0)) (BlockScope.of rfl) (fun _ _ _ _ => (pgy 0 (nd_of (by rfl)))) (fun _ _ _ _ => pts_nil) (fun _ _ _ _ => (c_call D_is_make_and_coal (hr.mono (by decide)) rfl (pb1 (cy 0))))))))))), ?_⟩
 unfold sp_are_boilers spLook at h
 split at h
 ·rename_i v
  obtain ⟨p, d, r, q⟩ := h
  refine ⟨p, d, r, fun b hb => ⟨fun c => ?_, fun c => ?_⟩⟩
  ·rw [c] at hb
   obtain ⟨ds, rfl⟩ := isTO_tup hb.symm
   obtain ⟨l, xs, rfl, hl, rs⟩ := Rep.shape r
   have hlen := rs.len
   have hsm : ds.length ≤ 4 := by
    have := hb.symm; unfold isTO at this; simp only [Bool.and_eq_true, decide_eq_true_eq] at this; omega
   refine ⟨l, rfl, ⟨xs, SqT.of hl⟩, walk_tup (xs := xs) (fun i ys H' => Same H H' ∧ ys = (ds.take i).map fun d => V.bl (isMC d)) (by omega) ⟨Same.refl _, rfl⟩ (fun i ys H' h => by rw [h.2, List.length_map, List.length_take]; omega) (fun i ys H' _ h => SqT.of (h.1 _ _ hl)) (fun i x ys H' hx h => ?_) fun ys H' h => ?_⟩
   ·obtain ⟨d, hd, rd⟩ := rs.got hx
    refine ⟨trivial, fun _ => ⟨p, d, Rep.ev (Ev.same h.1) d x rd, fun b H2 e s2 => ⟨h.1.trans s2, ?_⟩⟩, fun c => by cases c⟩
    rw [h.2, e, take_map _ hd]
   ·intro m hm
    refine ⟨m, ds.map isMC, rfl, ?_, ?_⟩
    ·rw [upd_same, h.2, ← hlen, List.take_length, List.map_map]; rfl
    ·refine q _ _ ?_ (h.1.trans (Same.new hm))
     unfold isBoilers; dsimp only; rw [← hb, List.all_map, Bool.true_and]; rfl
  ·refine q _ _ ?_ (Same.refl _)
   have e : isTO d 1 4 = false := by rw [← hb, c]
   unfold isBoilers
   cases d <;> first | rfl | skip
   dsimp only; rw [e]; rfl
 ·exact h.elim
theorem sc_are_engines : FnScope ["thing"] ["thing"] (defScope s_are_engines) := ⟨rfl, rfl, rfl, by decide +kernel, rfl, by decide +kernel, by decide +kernel⟩
theorem ok_are_engines (F : Df K mg "are_engines" s_are_engines ["thing"]) (T : Tx mg) (D_is_engine : Fn P w K mg base 3 "is_engine" ["thing"] sp_is_engine) (D_is_tuple_of : Fn P w K mg base 1 "is_tuple_of" ["thing", "fewest", "most"] sp_is_tuple_of) : Fn P w K mg base 4 "are_engines" ["thing"] sp_are_engines := by
 obtain ⟨t_MOST_ENGINES, g_MOST_ENGINES⟩ := T.g_MOST_ENGINES
 refine F.fn sc_are_engines (fun vs H Q E h => ?_) (fun f cdv A outer s H vs Q E hr h => ?_)
 ·exact len_are_engines h
 refine ⟨_, (pss_one (ps_ret (c_andV (c_call D_is_tuple_of (hr.mono (by decide)) rfl (pb3 (cy 0) pe_int (pe_glob (v := .int 4) rfl g_MOST_ENGINES ⟨t_MOST_ENGINES, rfl⟩))) (pe_one (pe_callB (call_all rfl) rfl T.b_all boot_all (pb1 (pe_comp ["part"] [none] rfl (piT K (cy 0)) (BlockScope.of rfl) (fun _ _ _ _ => (pgy 0 (nd_of (by rfl)))) (fun _ _ _ _ => pts_nil) (fun _ _ _ _ => (c_call D_is_engine (hr.mono (by decide)) rfl (pb1 (cy 0))))))))))), ?_⟩
 unfold sp_are_engines spLook at h
 split at h
 ·rename_i v
  obtain ⟨p, d, r, q⟩ := h
  refine ⟨p, d, r, fun b hb => ⟨fun c => ?_, fun c => ?_⟩⟩
  ·rw [c] at hb
   obtain ⟨ds, rfl⟩ := isTO_tup hb.symm
   obtain ⟨l, xs, rfl, hl, rs⟩ := Rep.shape r
   have hlen := rs.len
   have hsm : ds.length ≤ 4 := by
    have := hb.symm; unfold isTO at this; simp only [Bool.and_eq_true, decide_eq_true_eq] at this; omega
   refine ⟨l, rfl, ⟨xs, SqT.of hl⟩, walk_tup (xs := xs) (fun i ys H' => Same H H' ∧ ys = (ds.take i).map fun d => V.bl (isEng d)) (by omega) ⟨Same.refl _, rfl⟩ (fun i ys H' h => by rw [h.2, List.length_map, List.length_take]; omega) (fun i ys H' _ h => SqT.of (h.1 _ _ hl)) (fun i x ys H' hx h => ?_) fun ys H' h => ?_⟩
   ·obtain ⟨d, hd, rd⟩ := rs.got hx
    refine ⟨trivial, fun _ => ⟨p, d, Rep.ev (Ev.same h.1) d x rd, fun b H2 e s2 => ⟨h.1.trans s2, ?_⟩⟩, fun c => by cases c⟩
    rw [h.2, e, take_map _ hd]
   ·intro m hm
    refine ⟨m, ds.map isEng, rfl, ?_, ?_⟩
    ·rw [upd_same, h.2, ← hlen, List.take_length, List.map_map]; rfl
    ·refine q _ _ ?_ (h.1.trans (Same.new hm))
     unfold isEngines; dsimp only; rw [← hb, List.all_map, Bool.true_and]; rfl
  ·refine q _ _ ?_ (Same.refl _)
   have e : isTO d 0 4 = false := by rw [← hb, c]
   unfold isEngines
   cases d <;> first | rfl | skip
   dsimp only; rw [e]; rfl
 ·exact h.elim
theorem sc_is_plant : FnScope ["thing", "boilers", "engines", "main"] ["thing"] (defScope s_is_plant) := ⟨rfl, rfl, rfl, by decide +kernel, rfl, by decide +kernel, by decide +kernel⟩
theorem ok_is_plant (F : Df K mg "is_plant" s_is_plant ["thing"]) (T : Tx mg) (D_are_boilers : Fn P w K mg base 4 "are_boilers" ["thing"] sp_are_boilers) (D_are_engines : Fn P w K mg base 4 "are_engines" ["thing"] sp_are_engines) (D_is_main : Fn P w K mg base 3 "is_main" ["thing"] sp_is_main) (D_is_tuple_of : Fn P w K mg base 1 "is_tuple_of" ["thing", "fewest", "most"] sp_is_tuple_of) : Fn P w K mg base 5 "is_plant" ["thing"] sp_is_plant := by
 refine F.fn sc_is_plant (fun vs H Q E h => ?_) (fun f cdv A outer s H vs Q E hr h => ?_)
 ·exact len_is_plant h
 refine ⟨_, (pss_cons (c_if (pt_not (c_val (c_call D_is_tuple_of (hr.mono (by decide)) rfl (pb3 (cy 0) pe_int pe_int)))) (pss_one (ps_ret pe_bl)) pss_nil) (pss_cons (ps_asg (cy 0) (pgT K (n := 3) (pgs_cons (pgy 1 sc_is_plant.nd) (pgs_cons (pgy 2 sc_is_plant.nd) (pgs_cons (pgy 3 sc_is_plant.nd) pgs_nil))))) (pss_one (ps_ret (c_andV (c_call D_are_boilers (hr.mono (by decide)) rfl (pb1 (cy 1))) (c_andV (c_call D_are_engines (hr.mono (by decide)) rfl (pb1 (cy 2))) (pe_one (c_call D_is_main (hr.mono (by decide)) rfl (pb1 (cy 3)))))))))), ?_⟩
 unfold sp_is_plant spLook at h
 split at h
 ·rename_i v
  obtain ⟨p, d, r, q⟩ := h
  refine ⟨p, d, r, fun b hb => ⟨fun c => ?_, fun c => ?_⟩⟩
  ·refine q false H ?_ (Same.refl _)
   have e : isTO d 3 3 = false := by rw [← hb]; simpa using c
   cases d <;> first | rfl | skip
   rename_i ds
   match ds, e with
   | [a, b, c], e => cases e
   | [], _ => rfl
   | [_], _ => rfl
   | [_, _], _ => rfl
   | _ :: _ :: _ :: _ :: _, _ => rfl
  ·have e : isTO d 3 3 = true := by rw [← hb]; simpa using c
   obtain ⟨ds, rfl⟩ := isTO_tup e
   obtain ⟨a, b, c', rfl⟩ := three e
   obtain ⟨l, xs, rfl, hl, rs⟩ := Rep.shape r
   obtain ⟨x, y, z, rfl, rx, ry, rz⟩ := Reps.three rs
   refine ⟨l, [x, y, z], rfl, SqT.of hl, rfl, x, [y, z], rfl, y, [z], rfl, z, [], rfl, rfl, p, a, rx, fun b1 H1 e1 s1 => ⟨fun c => ⟨p, b, Rep.ev (Ev.same s1) _ _ ry, fun b2 H2 e2 s2 => ⟨fun c2 => ⟨p, c', Rep.ev (Ev.same (s1.trans s2)) _ _ rz, fun b3 H3 e3 s3 => ?_⟩, fun c2 => ?_⟩⟩, fun c => ?_⟩⟩
   ·exact q _ _ (by unfold isPlant; dsimp only; rw [e3, ← e1, ← e2, c, c2]; rfl) (s1.trans (s2.trans s3))
   ·exact q _ _ (by unfold isPlant; dsimp only; rw [← e1, ← e2, c, c2]; rfl) (s1.trans s2)
   ·exact q _ _ (by unfold isPlant; dsimp only; rw [← e1, c]; rfl) s1
 ·exact h.elim
end
end MF

end

section
namespace MF
open PySem PySem.Spec PyProof.Rows L2
def Pen (p : Addr) (H : Hp) : Prop := ∃ l f : Int, H p = some (.lst [.int l, .int f])
theorem Pen.new {p a : Addr} {H : Hp} {o : HO} (h : Pen p H) (n : H a = none) : Pen p (upd H a o) := by
 obtain ⟨l, f, e⟩ := h; exact ⟨l, f, by rw [upd_ne (ne_of_none e n)]; exact e⟩
theorem Pen.ne {p a : Addr} {H : Hp} (h : Pen p H) (n : H a = none) : a ≠ p := by obtain ⟨l, f, e⟩ := h; exact Ne.symm (ne_of_none e n)
theorem Pen.same {p : Addr} {H H' : Hp} (h : Pen p H) (s : Same H H') : Pen p H' := by obtain ⟨l, f, e⟩ := h; exact ⟨l, f, s _ _ e⟩
def sp__law_cell (K : PySem.W.Frag) : Sp := fun vs H Q _ => match vs with | [.ref a, .int k] => ∃ ns : List Int, SqL K H a (ns.map V.int) ∧ 0 ≤ k ∧ ∀ i, Q (.int i) H | _ => False
def sp__law_pen : Sp := fun vs H Q _ => match vs with | [.int c] => ∀ p l f, H p = none → Q (.ref p) (upd H p (.lst [.int l, .int f])) | _ => False
def sp__law_draw : Sp := fun vs H Q _ => match vs with | [.ref p, .int m] => Pen p H ∧ 0 < m ∧ m < 1000 ∧ ∀ g H', 0 ≤ g → g < m → Ev p H H' → Pen p H' → Q (.int g) H' | _ => False
theorem pick {ns : List Int} {g : Int} (h0 : 0 ≤ g) (h1 : g < ns.length) : ∃ v ∈ ns, atI (ns.map V.int) g = some (.int v) := by
 have hk : g.toNat < ns.length := by omega
 have e : g = ((g.toNat : Nat) : Int) := by omega
 refine ⟨ns[g.toNat], List.getElem_mem hk, ?_⟩
 have q : atI (ns.map V.int) ((g.toNat : Nat) : Int) = some (.int ns[g.toNat]) := atI_nat (by simp [hk])
 rw [← e] at q
 exact q
section
variable {P : Program} {w : World} {K : PySem.W.Frag} {mg : Str → Option Value} {base : Heap}
theorem sc__law_cell : FnScope ["_law_script", "_law_k"] ["_law_script", "_law_k"] (defScope s__law_cell) := ⟨rfl, rfl, rfl, by decide +kernel, rfl, by decide +kernel, by decide +kernel⟩
theorem ok__law_cell (F : Df K mg "_law_cell" s__law_cell ["_law_script", "_law_k"]) (T : Tx mg)  : Fn P w K mg base 1 "_law_cell" ["_law_script", "_law_k"] (sp__law_cell K) := by
 refine F.fn sc__law_cell (fun vs H Q E h => ?_) (fun f cdv A outer s H vs Q E hr h => ?_)
 ·unfold sp__law_cell at h; split at h; rfl; exact h.elim
 refine ⟨_, (pss_cons (c_if (c_cmpT o_lt (cy 1) (pe_callB (lenS K) rfl T.b_len PySem.boot_len (pb1 (cy 0))) (nomark _)) (pss_one (ps_ret (pe_ix (ixL K) (cy 0) (cy 1) (fun _ _ => rfl)))) pss_nil) (pss_one (ps_ret pe_int))), ?_⟩
 unfold sp__law_cell at h
 split at h
 ·rename_i a k
  obtain ⟨ns, hs, h0, q⟩ := h
  refine ⟨a, _, rfl, .inl hs, ⟨fun c => ?_, fun c => q 0⟩⟩
  have c' : k < (ns.length : Int) := by have := of_decide_eq_true c; simpa using this
  obtain ⟨v, _, e⟩ := pick h0 c'
  exact ⟨a, _, k, .int v, rfl, rfl, hs, e, q v⟩
 ·exact h.elim
theorem sc__law_pen : FnScope ["_law_cell_here", "_law_left"] ["_law_cell_here"] (defScope s__law_pen) := ⟨rfl, rfl, rfl, by decide +kernel, rfl, by decide +kernel, by decide +kernel⟩
theorem ok__law_pen (F : Df K mg "_law_pen" s__law_pen ["_law_cell_here"]) (T : Tx mg)  : Fn P w K mg base 1 "_law_pen" ["_law_cell_here"] sp__law_pen := by
 refine F.fn sc__law_pen (fun vs H Q E h => ?_) (fun f cdv A outer s H vs Q E hr h => ?_)
 ·unfold sp__law_pen at h; split at h; rfl; exact h.elim
 refine ⟨_, (pss_cons (ps_set (i := 1) sc__law_pen.nd rfl (loc_of (by rfl)) (pe_callB (call_max2 rfl) rfl T.b_max boot_max (pb2 (cy 0) (pe_op o_sub pe_int (cy 0))))) (pss_one (ps_ret (c_lst (pb2 (cy 1) (pe_callTy call_int1 rfl T.b_int L2.boot_int (pb1 (pe_cmpR o_ge (cy 1) (pe_op o_pow pe_int pe_int) (nomark _))))))))), ?_⟩
 unfold sp__law_pen at h
 split at h
 ·rename_i c
  refine ⟨c, 0 - c, rfl, ?_⟩
  exact ⟨⟨by decide, by decide, by decide⟩, .inr ⟨_, rfl, fun p hp => h p _ _ hp⟩⟩
 ·exact h.elim
theorem sc__law_draw : FnScope ["_law_pen_here", "_law_many", "_law_left", "_law_got", "_law_stir"] ["_law_pen_here", "_law_many"] (defScope s__law_draw) := ⟨rfl, rfl, rfl, by decide +kernel, rfl, by decide +kernel, by decide +kernel⟩
theorem ok__law_draw (F : Df K mg "_law_draw" s__law_draw ["_law_pen_here", "_law_many"]) (T : Tx mg)  : Fn P w K mg base 1 "_law_draw" ["_law_pen_here", "_law_many"] sp__law_draw := by
 refine F.fn sc__law_draw (fun vs H Q E h => ?_) (fun f cdv A outer s H vs Q E hr h => ?_)
 ·unfold sp__law_draw at h; split at h; rfl; exact h.elim
 refine ⟨_, (pss_cons (c_if (c_cmpT op_eq (pe_ix (ixL K) (cy 0) pe_int (fun _ _ => rfl)) pe_int (nomark _)) (pss_cons (ps_asg (pe_callB call_divmod rfl T.b_divmod boot_divmod (pb2 (pe_ix (ixL K) (cy 0) pe_int (fun _ _ => rfl)) (cy 1))) (pgT K (n := 2) (pgs_cons (pgy 2 sc__law_draw.nd) (pgs_cons (pgy 3 sc__law_draw.nd) pgs_nil)))) (pss_cons (ps_asg (cy 2) (pg_sub (cy 0) pe_int set_list)) (pss_one (ps_ret (cy 3))))) pss_nil) (pss_cons (ps_set (i := 4) sc__law_draw.nd rfl (loc_of (by rfl)) (pe_op o_mod (pe_op o_mul (pe_op o_add (pe_op o_mod (pe_ix (ixL K) (cy 0) pe_int (fun _ _ => rfl)) pe_int) pe_int) pe_int) pe_int)) (pss_cons (ps_set (i := 4) sc__law_draw.nd rfl (loc_of (by rfl)) (pe_op o_mod (pe_op o_add (pe_op o_mul (cy 4) (cy 4)) pe_int) pe_int)) (pss_cons (ps_asg (pe_op o_mod (pe_op o_add (pe_op o_mul (cy 4) pe_int) pe_int) pe_int) (pg_sub (cy 0) pe_int set_list)) (pss_one (ps_ret (pe_op o_mod (pe_op o_fdiv (pe_ix (ixL K) (cy 0) pe_int (fun _ _ => rfl)) pe_int) (cy 1)))))))), ?_⟩
 unfold sp__law_draw at h
 split at h
 ·rename_i p m
  obtain ⟨⟨l, f, hp⟩, h0, h1, q⟩ := h
  refine ⟨p, [.int l, .int f], 1, .int f, rfl, rfl, SqL.of hp, rfl, rfl, ⟨fun c => ?_, fun c => ?_⟩⟩
  ·refine ⟨p, [.int l, .int f], 0, .int l, rfl, rfl, SqL.of hp, rfl, l, m, rfl, ⟨h0, by omega⟩, fun t ht => ?_⟩
   have hpt : p ≠ t := ne_of_none hp ht
   have hp' : upd H t (.tup [.int (l / m), .int (l % m)]) p = some (.lst [.int l, .int f]) := by rw [upd_ne hpt]; exact hp
   refine ⟨t, [.int (l / m), .int (l % m)], rfl, SqT.of upd_same, rfl, _, _, rfl, _, _, rfl, rfl, ?_⟩
   refine ⟨p, [.int l, .int f], 0, 0, rfl, rfl, hp', rfl, ?_⟩
   exact q _ _ (Int.emod_nonneg _ (by omega)) (Int.emod_lt_of_pos _ h0) ((Ev.new ht).trans (Ev.pen hp')) ⟨l / m, f, upd_same⟩
  ·have b1 : ∀ x : Int, -(2 ^ 64) < x % 2147483629 := fun x => Int.lt_of_lt_of_le (by decide) (Int.emod_nonneg x (by decide))
   have b2 : ∀ x : Int, x % 2147483629 < 2 ^ 64 := fun x => Int.lt_trans (Int.emod_lt_of_pos x (by decide)) (by decide)
   have g1 : (0 : Int) < 2147483647 := by decide
   have g2 : (0 : Int) < 2147483629 := by decide
   have g3 : (0 : Int) < 2147483587 := by decide
   have c1 : -(2 ^ 64) < (69621 : Int) ∧ (69621 : Int) < 2 ^ 64 := by decide
   have c2 : -(2 ^ 64) < (48271 : Int) ∧ (48271 : Int) < 2 ^ 64 := by decide
   refine ⟨p, [.int l, .int f], 0, .int l, rfl, rfl, SqL.of hp, rfl, g1, .inr c1, g2, .inl ⟨b1 _, b2 _⟩, g3, .inr c2, g2, p, [.int l, .int f], 0, 0, rfl, rfl, hp, rfl, ?_⟩
   refine ⟨p, _, 0, _, rfl, rfl, SqL.of upd_same, rfl, ⟨by decide, by decide⟩, h0, ?_⟩
   exact q _ _ (Int.emod_nonneg _ (by omega)) (Int.emod_lt_of_pos _ h0) (Ev.pen hp) ⟨_, f, upd_same⟩
 ·exact h.elim
end
end MF

end

section
namespace MF
open PySem PySem.Spec PyProof.Rows L2
mutual
def noMut : PyData → Bool
 | .list _ => false | .dict _ => false | .tuple ds => noMuts ds | _ => true
def noMuts : List PyData → Bool
 | [] => true
 | d :: ds => noMut d && noMuts ds
end
def TEv (H H' : Hp) : Prop := ∀ a xs, H a = some (.tup xs) → H' a = some (.tup xs)
theorem TEv.trans {H H1 H2 : Hp} (a : TEv H H1) (b : TEv H1 H2) : TEv H H2 := fun c o h => b c o (a c o h)
theorem _root_.L2.Ev.tev {p : Addr} {H H' : Hp} (h : Ev p H H') : TEv H H' := fun a xs q => h.tup q
theorem TEv.upd {H : Hp} {a : Addr} {ys zs : List V} (h : H a = some (.lst ys)) : TEv H (upd H a (.lst zs)) := fun b xs q => by
 rw [upd_ne (ne_of q h (by intro z; cases z))]; exact q
mutual
theorem Rep.tev {p p' : Addr} {H H' : Hp} (h : TEv H H') : ∀ (d : PyData) (v : V), noMut d = true → Rep p H d v → Rep p' H' d v
 | .none, v, _, q => q
 | .bool _, v, _, q => q
 | .int _, v, _, q => q
 | .str _, v, _, q => q
 | .tuple ds, v, n, q => by
  unfold Rep at q ⊢
  obtain ⟨a, xs, e, r, z⟩ := q
  exact ⟨a, xs, e, h _ _ r, Reps.tev h ds xs (by unfold noMut at n; exact n) z⟩
 | .list ds, v, n, q => by unfold noMut at n; cases n
 | .dict kvs, v, n, q => by unfold noMut at n; cases n
theorem Reps.tev {p p' : Addr} {H H' : Hp} (h : TEv H H') : ∀ (ds : List PyData) (xs : List V), noMuts ds = true → Reps p H ds xs → Reps p' H' ds xs
 | [], xs, _, q => by unfold Reps at q ⊢; exact q
 | d :: ds, xs, n, q => by
  unfold Reps at q ⊢
  unfold noMuts at n
  obtain ⟨n1, n2⟩ := Bool.and_eq_true_iff.mp n
  obtain ⟨x, r, e, z, zs⟩ := q
  exact ⟨x, r, e, Rep.tev h d x n1 z, Reps.tev h ds r n2 zs⟩
end
theorem noMuts_all {ds : List PyData} (h : ∀ d ∈ ds, noMut d = true) : noMuts ds = true := by
 induction ds with
 | nil => rfl
 | cons d ds ih => unfold noMuts; rw [h d List.mem_cons_self, ih fun x hx => h x (List.mem_cons_of_mem _ hx)]; rfl
theorem _root_.L2.Ev.own {p b : Addr} {H H' : Hp} {o : HO} (h : Ev p H H') (n : H b = none) : Ev p H (upd H' b o) := fun x u q => (h x u q).elim .inl fun r => .inr (by rw [upd_ne (ne_of_none q n)]; exact r)
def GoodB (d : PyData) : Prop := ∃ m c : Int, d = .tuple [.int m, .int c] ∧ 1 ≤ m ∧ m ≤ 9 ∧ 1 ≤ c ∧ c ≤ 9
def GoodE (d : PyData) : Prop := ∃ a f e : Int, d = .tuple [.int a, .int f, .int e] ∧ 1 ≤ a ∧ a ≤ 9 ∧ 0 ≤ f ∧ f ≤ 7 ∧ 1 ≤ e ∧ e ≤ 8
theorem GoodB.nm {d : PyData} (h : GoodB d) : noMut d = true := by obtain ⟨m, c, rfl, _⟩ := h; rfl
theorem GoodE.nm {d : PyData} (h : GoodE d) : noMut d = true := by obtain ⟨m, c, e, rfl, _⟩ := h; rfl
structure GoodP (bs es : List PyData) (lo hi st : Int) : Prop where
 b : ∀ d ∈ bs, GoodB d
 b1 : 1 ≤ bs.length
 b4 : bs.length ≤ 4
 e : ∀ d ∈ es, GoodE d
 e4 : es.length ≤ 4
 lo0 : 0 ≤ lo
 ls : lo ≤ st
 sh : st ≤ hi
 h4 : hi ≤ 40
def plantD (bs es : List PyData) (lo hi st : Int) : PyData := .tuple [.tuple bs, .tuple es, .tuple [.int lo, .int hi, .int st]]
def sp__law_plant : Sp := fun vs H Q _ => match vs with | [.ref p] => Pen p H ∧ ∀ v H' bs es lo hi st, GoodP bs es lo hi st → Rep p H' (plantD bs es lo hi st) v → Ev p H H' → Pen p H' → Q v H' | _ => False
structure Filled (Good : PyData → Prop) (p b : Addr) (H H2 : Hp) (i : Nat) : Prop where
 ev : Ev p H H2
 pen : Pen p H2
 ex : ∃ xs ds, H2 b = some (.lst xs) ∧ Reps p H2 ds xs ∧ (∀ d ∈ ds, Good d) ∧ ds.length = i
theorem Filled.step {Good : PyData → Prop} {p b t : Addr} {H H2 H3 : Hp} {i : Nat} {d : PyData} {ys xs : List V} {ds : List PyData} (nm : ∀ d, Good d → noMut d = true) (hx : H2 b = some (.lst xs)) (rs : Reps p H2 ds xs) (gd : ∀ d ∈ ds, Good d) (hl : ds.length = i) (e3 : Ev p H2 H3) (nb : b ≠ p) (hb : H b = none) (ev : Ev p H H3) (pn : Pen p H3)
  (ht : H3 t = none) (rd : Rep p (upd H3 t (.tup ys)) d (.ref t)) (g : Good d) : Filled Good p b H (upd (upd H3 t (.tup ys)) b (.lst (xs ++ [.ref t]))) (i + 1) := by
 have hb3 : H3 b = some (.lst xs) := e3.lst hx nb
 have hbt : b ≠ t := ne_of_none hb3 ht
 have hbt' : upd H3 t (.tup ys) b = some (.lst xs) := by rw [upd_ne hbt]; exact hb3
 have tv : TEv (upd H3 t (.tup ys)) (upd (upd H3 t (.tup ys)) b (.lst (xs ++ [.ref t]))) := TEv.upd hbt'
 have pn2 : Pen p (upd H3 t (.tup ys)) := pn.new ht
 refine ⟨(ev.trans (Ev.new ht)).own hb, ?_, xs ++ [.ref t], ds ++ [d], upd_same, ?_, ?_, by simp [hl]⟩
 ·obtain ⟨l, f, e⟩ := pn2
  exact ⟨l, f, by rw [upd_ne (Ne.symm nb)]; exact e⟩
 ·exact (Reps.tev ((e3.trans (Ev.new ht)).tev.trans tv) ds xs (noMuts_all fun d h => nm d (gd d h)) rs).append (.cons (Rep.tev tv d _ (nm d g) rd) .nil)
 ·intro x hx
  rcases List.mem_append.mp hx with h | h
  ·exact gd x h
  ·rw [List.mem_singleton.mp h]; exact g
theorem Filled.done {Good : PyData → Prop} {p b : Addr} {H H2 H3 : Hp} {i : Nat} (f : Filled Good p b H H2 i) (nb : b ≠ p) (e3 : Ev p H2 H3) : ∃ xs ds, H3 b = some (.lst xs) ∧ Reps p H3 ds xs ∧ (∀ d ∈ ds, Good d) ∧ ds.length = i := by
 obtain ⟨xs, ds, h1, h2, h3, h4⟩ := f.ex
 exact ⟨xs, ds, e3.lst h1 nb, Reps.ev e3 ds xs h2, h3, h4⟩
theorem Filled.other {Good : PyData → Prop} {p b e t : Addr} {H H4 H7 : Hp} {i : Nat} {ys zs ws : List V} (nm : ∀ d, Good d → noMut d = true) (f : Filled Good p b H H4 i) (e47 : Ev p H4 H7) (ht : H7 t = none) (he : H7 e = some (.lst ys)) (hHe : H e = none) (nb : b ≠ p) (neb : b ≠ e) (ne : e ≠ p) (pn : Pen p H7) :
  Filled Good p b H (upd (upd H7 t (.tup zs)) e (.lst ws)) i := by
 obtain ⟨xs, ds, h1, h2, h3, h4⟩ := f.ex
 have h7 : H7 b = some (.lst xs) := e47.lst h1 nb
 have het : upd H7 t (.tup zs) e = some (.lst ys) := by rw [upd_ne (ne_of_none he ht)]; exact he
 refine ⟨((f.ev.trans e47).trans (Ev.new ht)).own hHe, ?_, xs, ds, ?_, ?_, h3, h4⟩
 ·obtain ⟨l, g, z⟩ := pn.new (o := .tup zs) ht
  exact ⟨l, g, by rw [upd_ne (Ne.symm ne)]; exact z⟩
 ·rw [upd_ne neb, upd_ne (ne_of_none h7 ht)]; exact h7
 ·exact Reps.tev ((e47.trans (Ev.new ht)).tev.trans (TEv.upd het)) ds xs (noMuts_all fun d h => nm d (h3 d h)) h2
theorem small63 {n : Nat} (h : n ≤ 1000) : n < sizeLine := Nat.lt_of_le_of_lt h (by decide)
section
variable {P : Program} {w : World} {K : PySem.W.Frag} {mg : Str → Option Value} {base : Heap}
theorem sc__law_plant : FnScope ["_law_pen_here", "_law_boilers", "_law_turn", "_law_make", "_law_engines", "_law_low", "_law_high"] ["_law_pen_here"] (defScope s__law_plant) := ⟨rfl, rfl, rfl, by decide +kernel, rfl, by decide +kernel, by decide +kernel⟩
theorem ok__law_plant (F : Df K mg "_law_plant" s__law_plant ["_law_pen_here"]) (T : Tx mg) (D__law_draw : Fn P w K mg base 1 "_law_draw" ["_law_pen_here", "_law_many"] sp__law_draw) : Fn P w K mg base 2 "_law_plant" ["_law_pen_here"] sp__law_plant := by
 refine F.fn sc__law_plant (fun vs H Q E h => ?_) (fun f cdv A outer s H vs Q E hr h => ?_)
 ·unfold sp__law_plant at h; split at h; rfl; exact h.elim
 refine ⟨_, (pss_cons (ps_set (i := 1) sc__law_plant.nd rfl (loc_of (by rfl)) (c_lst pa_nil)) (pss_cons (ps_for PassesOwn.never rfl (pi_range1 rfl T.b_range (pb1 (pe_op o_add pe_int (c_call D__law_draw (hr.mono (by decide)) rfl (pb2 (cy 0) pe_int))))) (pgy 2 sc__law_plant.nd) (pss_cons (ps_set (i := 3) sc__law_plant.nd rfl (loc_of (by rfl)) (pe_ix (ixL K) (c_lst (pb3 pe_int pe_int (pe_op o_add pe_int (c_call D__law_draw (hr.mono (by decide)) rfl (pb2 (cy 0) pe_int))))) (c_call D__law_draw (hr.mono (by decide)) rfl (pb2 (cy 0) pe_int)) (fun _ _ => rfl))) (pss_one (ps_expr (pe_bm PySem.F.plainAttrs_list PySem.F.slot_list_append PySem.F.type_list_append mt_append (cy 1) (pb1 (c_tup (pb2 (cy 3) (pe_op o_add pe_int (c_call D__law_draw (hr.mono (by decide)) rfl (pb2 (cy 0) (pe_ix (ixL K) (c_lst (pb2 pe_int pe_int)) (c_call D__law_draw (hr.mono (by decide)) rfl (pb2 (cy 0) pe_int)) (fun _ _ => rfl))))))))))))) (pss_cons (ps_set (i := 4) sc__law_plant.nd rfl (loc_of (by rfl)) (c_lst pa_nil)) (pss_cons (ps_for PassesOwn.never rfl (pi_range1 rfl T.b_range (pb1 (c_call D__law_draw (hr.mono (by decide)) rfl (pb2 (cy 0) pe_int)))) (pgy 2 sc__law_plant.nd) (pss_one (ps_expr (pe_bm PySem.F.plainAttrs_list PySem.F.slot_list_append PySem.F.type_list_append mt_append (cy 4) (pb1 (c_tup (pb3 (pe_op o_add pe_int (c_call D__law_draw (hr.mono (by decide)) rfl (pb2 (cy 0) pe_int))) (c_call D__law_draw (hr.mono (by decide)) rfl (pb2 (cy 0) pe_int)) (pe_op o_add pe_int (c_call D__law_draw (hr.mono (by decide)) rfl (pb2 (cy 0) pe_int)))))))))) (pss_cons (ps_set (i := 5) sc__law_plant.nd rfl (loc_of (by rfl)) (pe_ix (ixL K) (c_lst (pb2 pe_int (c_call D__law_draw (hr.mono (by decide)) rfl (pb2 (cy 0) pe_int)))) (c_call D__law_draw (hr.mono (by decide)) rfl (pb2 (cy 0) pe_int)) (fun _ _ => rfl))) (pss_cons (ps_set (i := 6) sc__law_plant.nd rfl (loc_of (by rfl)) (pe_callB (call_min2 rfl) rfl T.b_min boot_min (pb2 pe_int (pe_op o_add (cy 5) (pe_ix (ixL K) (c_lst (pa_cons pe_int (pb4 pe_int pe_int pe_int (c_call D__law_draw (hr.mono (by decide)) rfl (pb2 (cy 0) pe_int))))) (c_call D__law_draw (hr.mono (by decide)) rfl (pb2 (cy 0) pe_int)) (fun _ _ => rfl)))))) (pss_one (ps_ret (c_tup (pb3 (pe_callTy (tupOf K) rfl T.b_tuple boot_tuple' (pb1 (cy 1))) (pe_callTy (tupOf K) rfl T.b_tuple boot_tuple' (pb1 (cy 4))) (c_tup (pb3 (cy 5) (cy 6) (pe_op o_add (cy 5) (c_call D__law_draw (hr.mono (by decide)) rfl (pb2 (cy 0) (pe_op o_add (pe_op o_sub (cy 6) (cy 5)) pe_int)))))))))))))))), ?_⟩
 unfold sp__law_plant at h
 split at h
 ·rename_i p
  obtain ⟨pn, q⟩ := h
  refine fun b hb => ?_
  have nb : b ≠ p := pn.ne hb
  refine ⟨pn.new hb, by decide, by decide, fun g1 H1 a1 b1 e1 pn1 => ?_⟩
  have ev1 : Ev p H H1 := (Ev.new hb).trans e1
  have hb1 : H1 b = some (.lst []) := e1.lst upd_same nb
  refine ⟨1 + g1, rfl, by omega, by omega, for_range (n := (1 + g1).toNat) (fun i σ H2 => ∃ t m, σ = [some (.ref p), some (.ref b), t, m, none, none, none] ∧ Filled GoodB p b H H2 i)
   ⟨none, none, rfl, ev1, pn1, [], [], hb1, .nil, (fun _ h => nomatch h), rfl⟩ (fun i σ H2 hi hP => ?_) fun σ H2 hP => ?_⟩
  ·obtain ⟨t, m, rfl, ev, pn2, xs, ds, hx, rs, gd, hl⟩ := hP
   refine ⟨pn2, by decide, by decide, fun g2 H3 a2 b2 e2 pn3 l1 hl1 => ⟨pn3.new hl1, by decide, by decide, fun g3 H4 a3 b3 e3 pn4 => ?_⟩⟩
   obtain ⟨v, hv, hat⟩ := pick (ns := [1, 9, 1 + g2]) a3 (by simpa using b3)
   have hb4 : H4 b = some (.lst xs) := e3.lst (by rw [upd_ne (ne_of_none (e2.lst hx nb) hl1)]; exact e2.lst hx nb) nb
   refine ⟨l1, _, g3, .int v, rfl, rfl, SqL.of (e3.lst upd_same (pn3.ne hl1)), hat, .inl ⟨rfl, _, SqL.of hb4⟩, fun l2 hl2 => ⟨pn4.new hl2, by decide, by decide, fun g4 H5 a4 b4 e4 pn5 => ?_⟩⟩
   obtain ⟨v2, hv2, hat2⟩ := pick (ns := [3, 9]) a4 (by simpa using b4)
   have hv2' : v2 = 3 ∨ v2 = 9 := by simpa using hv2
   refine ⟨l2, _, g4, .int v2, rfl, rfl, SqL.of (e4.lst upd_same (pn4.ne hl2)), hat2, pn5, by omega, by omega, fun g5 H6 a5 b5 e5 pn6 t1 ht1 => ?_⟩
   have e26 : Ev p H2 H6 := e2.trans ((Ev.new hl1).trans (e3.trans ((Ev.new hl2).trans (e4.trans e5))))
   have hv' : v = 1 ∨ v = 9 ∨ v = 1 + g2 := by simpa using hv
   refine ⟨b, xs, .ref t1, rfl, rfl, by rw [upd_ne (ne_of_none (e26.lst hx nb) ht1)]; exact e26.lst hx nb, small63 (by rw [← rs.len, hl]; omega), _, _, rfl, ?_⟩
   exact Filled.step (fun d h => h.nm) hx rs gd hl e26 nb hb (ev.trans e26) pn6 ht1 (Rep.tup upd_same (.cons Rep.int (.cons Rep.int .nil))) ⟨v, 1 + g5, rfl, by omega, by omega, by omega, by omega⟩
  obtain ⟨t, m, rfl, fb⟩ := hP
  refine fun e he => ?_
  have ne : e ≠ p := fb.pen.ne he
  have hne : H e = none := by
   cases z : H e with
   | none => rfl
   | some o => exact ((fb.ev e o z).elim (fun ⟨x, _⟩ => absurd x ne) fun x => by rw [x] at he; cases he)
  have neb : e ≠ b := by
   obtain ⟨xs, ds, h1, _⟩ := fb.ex
   exact Ne.symm (ne_of_none h1 he)
  refine ⟨fb.pen.new he, by decide, by decide, fun g6 H3 a6 b6 e6 pn3 => ?_⟩
  have fb3 : Filled GoodB p b H H3 (1 + g1).toNat := ⟨fb.ev.trans ((Ev.new he).trans e6), pn3, fb.done nb ((Ev.new he).trans e6)⟩
  refine ⟨g6, rfl, by omega, by omega, for_range (n := g6.toNat) (fun i σ H4 => ∃ t m, σ = [some (.ref p), some (.ref b), t, m, some (.ref e), none, none] ∧ Filled GoodB p b H H4 (1 + g1).toNat ∧ Filled GoodE p e H H4 i)
   ⟨_, _, rfl, fb3, fb3.ev, pn3, [], [], e6.lst upd_same ne, .nil, (fun _ h => nomatch h), rfl⟩ (fun i σ H4 hi hP => ?_) fun σ H4 hP => ?_⟩
  ·obtain ⟨t, m, rfl, fb4, ev, pn2, xs, ds, hx, rs, gd, hl⟩ := hP
   refine ⟨.inl ⟨rfl, _, SqL.of hx⟩, pn2, by decide, by decide, fun g7 H5 a7 b7 e7 pn5 => ⟨pn5, by decide, by decide, fun g8 H6 a8 b8 e8 pn6 => ⟨pn6, by decide, by decide, fun g9 H7 a9 b9 e9 pn7 t1 ht1 => ?_⟩⟩⟩
   have e47 : Ev p H4 H7 := e7.trans (e8.trans e9)
   have he7 := e47.lst hx ne
   refine ⟨e, xs, .ref t1, rfl, rfl, by rw [upd_ne (ne_of_none he7 ht1)]; exact he7, small63 (by rw [← rs.len, hl]; omega), _, _, rfl, ?_, ?_⟩
   ·exact Filled.other (fun d h => h.nm) fb4 e47 ht1 he7 hne nb (Ne.symm neb) ne pn7
   ·exact Filled.step (fun d h => h.nm) hx rs gd hl e47 ne hne (ev.trans e47) pn7 ht1 (Rep.tup upd_same (.cons Rep.int (.cons Rep.int (.cons Rep.int .nil)))) ⟨1 + g7, g8, 1 + g9, rfl, by omega, by omega, by omega, by omega, by omega, by omega⟩
  obtain ⟨t, m, rfl, fb4, fe4⟩ := hP
  have pn4 := fb4.pen
  refine ⟨pn4, by decide, by decide, fun g7 H5 a7 b7 e7 pn5 l1 hl1 => ⟨pn5.new hl1, by decide, by decide, fun g8 H6 a8 b8 e8 pn6 => ?_⟩⟩
  obtain ⟨low, hlow, hat⟩ := pick (ns := [0, g7]) a8 (by simpa using b8)
  have hlow' : low = 0 ∨ low = g7 := by simpa using hlow
  refine ⟨l1, _, g8, .int low, rfl, rfl, SqL.of (e8.lst upd_same (pn5.ne hl1)), hat, pn6, by decide, by decide, fun g9 H7 a9 b9 e9 pn7 l2 hl2 => ⟨pn7.new hl2, by decide, by decide, fun g10 H8 a10 b10 e10 pn8 => ?_⟩⟩
  obtain ⟨x, hx, hat2⟩ := pick (ns := [0, 3, 10, 40, g9]) a10 (by simpa using b10)
  have hx' : x = 0 ∨ x = 3 ∨ x = 10 ∨ x = 40 ∨ x = g9 := by simpa using hx
  refine ⟨l2, _, g10, .int x, rfl, rfl, SqL.of (e10.lst upd_same (pn7.ne hl2)), hat2, 40, low + x, rfl, ?_⟩
  have hhi : ∃ hi : Int, (if low + x < 40 then low + x else 40) = hi ∧ low ≤ hi ∧ hi ≤ 40 := by
   by_cases c : low + x < 40
   ·exact ⟨low + x, if_pos c, by omega, by omega⟩
   ·exact ⟨40, if_neg c, by omega, by omega⟩
  obtain ⟨hi, ehi, hi1, hi2⟩ := hhi
  rw [ehi]
  have e48 : Ev p H4 H8 := e7.trans ((Ev.new hl1).trans (e8.trans (e9.trans ((Ev.new hl2).trans e10))))
  obtain ⟨xs, bs, hb8, rb8, gb, lb⟩ := fb4.done nb e48
  obtain ⟨ys, es, he8, re8, ge, le⟩ := fe4.done ne e48
  refine ⟨b, xs, rfl, .inl ⟨SqL.of hb8, fun c1 hc1 => ⟨e, ys, rfl, .inl ⟨SqL.of (by rw [upd_ne (ne_of_none he8 hc1)]; exact he8), fun c2 hc2 => ⟨(pn8.new hc1).new hc2, by omega, by omega, fun g11 H9 a11 b11 e11 pn9 c3 hc3 c4 hc4 => ?_⟩⟩⟩⟩⟩
  have e89 : Ev p H8 (upd (upd H9 c3 (.tup [.int low, .int hi, .int (low + g11)])) c4 (.tup [.ref c1, .ref c2, .ref c3])) := (Ev.new hc1).trans ((Ev.new hc2).trans (e11.trans ((Ev.new hc3).trans (Ev.new hc4))))
  have t1 : upd (upd H9 c3 (.tup [.int low, .int hi, .int (low + g11)])) c4 (.tup [.ref c1, .ref c2, .ref c3]) c1 = some (.tup xs) :=
   ((Ev.new hc2).trans (e11.trans ((Ev.new hc3).trans (Ev.new hc4)))).tup upd_same
  have t2 : upd (upd H9 c3 (.tup [.int low, .int hi, .int (low + g11)])) c4 (.tup [.ref c1, .ref c2, .ref c3]) c2 = some (.tup ys) := (e11.trans ((Ev.new hc3).trans (Ev.new hc4))).tup upd_same
  have t3 : upd (upd H9 c3 (.tup [.int low, .int hi, .int (low + g11)])) c4 (.tup [.ref c1, .ref c2, .ref c3]) c3 = some (.tup [.int low, .int hi, .int (low + g11)]) := (Ev.new (p := p) hc4).tup upd_same
  refine q _ _ bs es low hi (low + g11) ⟨gb, by omega, by omega, ge, by omega, by omega, by omega, by omega, hi2⟩ ?_ (fb4.ev.trans (e48.trans e89)) ((pn9.new hc3).new hc4)
  exact Rep.tup upd_same (.cons (Rep.tup t1 (Reps.ev e89 _ _ rb8)) (.cons (Rep.tup t2 (Reps.ev e89 _ _ re8)) (.cons (Rep.tup t3 (.cons Rep.int (.cons Rep.int (.cons Rep.int .nil)))) .nil)))
 ·exact h.elim
end
end MF

end

section
namespace MF
open PySem PySem.Spec PyProof.Rows L2
theorem isWF_ok {i lo hi : Int} (h1 : lo ≤ i) (h2 : i ≤ hi) : isWF (.int i) lo hi = true := by unfold isWF; dsimp only; rw [decide_eq_true h1, decide_eq_true h2]; rfl
theorem isTO_ok {ds : List PyData} {lo hi : Int} (h1 : lo ≤ (ds.length : Int)) (h2 : (ds.length : Int) ≤ hi) : isTO (.tuple ds) lo hi = true := by unfold isTO; dsimp only; rw [decide_eq_true h1, decide_eq_true h2]; rfl
theorem isPlant_ok {P : PL} (h : P.ok) : isPlant P.d = true := by
 have b1 := h.b1
 have b4 := h.b4
 have e4 := h.e4
 have hb : isBoilers (.tuple (P.bs.map bD)) = true := by
  unfold isBoilers
  dsimp only
  rw [isTO_ok (by rw [List.length_map]; omega) (by rw [List.length_map]; omega), Bool.true_and, List.all_eq_true]
  intro d hd
  obtain ⟨q, hq, rfl⟩ := List.mem_map.mp hd
  obtain ⟨q1, q2, q3, q4⟩ := h.b q hq
  unfold isMC
  dsimp only
  rw [isWF_ok q1 q2, isWF_ok q3 q4]; rfl
 have he : isEngines (.tuple (P.es.map eD)) = true := by
  unfold isEngines
  dsimp only
  rw [isTO_ok (by rw [List.length_map]; omega) (by rw [List.length_map]; omega), Bool.true_and, List.all_eq_true]
  intro d hd
  obtain ⟨q, hq, rfl⟩ := List.mem_map.mp hd
  obtain ⟨q1, q2, q3, q4, q5, q6⟩ := h.e q hq
  unfold isEng
  dsimp only
  rw [isWF_ok q1 q2, isWF_ok q3 q4, isWF_ok q5 q6]; rfl
 have h0 := h.lo0
 have h1 := h.ls
 have h2 := h.sh
 have h3 := h.h4
 have hm : isMain (.tuple [.int P.lo, .int P.hi, .int P.st]) = true := by
  unfold isMain
  dsimp only
  rw [isWF_ok (by omega) h3, isWF_ok (by omega) h2, isWF_ok h0 h1]; rfl
 unfold isPlant PL.d
 dsimp only
 rw [hb, he, hm]; rfl
def sp_need_plant : Sp := fun vs H Q _ => match vs with | [v] => ∃ p P, PL.ok P ∧ Rep p H P.d v ∧ ∀ H', Same H H' → Q .non H' | _ => False
def sp_is_fault : Sp := fun vs H Q _ => match vs with | [v, .int nb, .int hs] => ∃ p x n h, FT.ok x n h ∧ nb = (n : Int) ∧ hs = (h : Int) ∧ Rep p H x.d v ∧ ∀ H', Same H H' → Q (.bl true) H' | _ => False
def sp_is_story : Sp := fun vs H Q _ => match vs with | [v, u] => ∃ p P S, PL.ok P ∧ SY.ok S P.bs.length ∧ Rep p H P.d v ∧ Rep p H S.d u ∧ ∀ H', Same H H' → Q (.bl true) H' | _ => False
def sp_need_story : Sp := fun vs H Q _ => match vs with | [v, u] => ∃ p P S, PL.ok P ∧ SY.ok S P.bs.length ∧ Rep p H P.d v ∧ Rep p H S.d u ∧ ∀ H', Same H H' → Q .non H' | _ => False
def sp_cap_under : Sp := fun vs H Q _ => match vs with | [.ref a, .int m] => ∃ ws : List Bool, H a = some (.lst (ws.map wV)) ∧ ∀ H', Same H H' → Q (.int (capU ws m)) H' | _ => False
def sp_words_for : Sp := fun vs H Q _ => match vs with | [v, .int b, .int h] => ∃ p fs, Rep p H (.tuple (fs.map FT.d)) v ∧ fs.length ≤ 1000 ∧ ∀ a H', Same H H' → H' a = some (.lst ((wordsOf fs b h).map wV)) → Q (.ref a) H' | _ => False
def sp_caps_in : Sp := fun vs H Q _ => match vs with | [v, u, .int h] => ∃ p bs fs, Rep p H (.tuple (bs.map bD)) v ∧ Rep p H (.tuple (fs.map FT.d)) u ∧ bs.length ≤ 1000 ∧ fs.length ≤ 1000 ∧ ret H Q p (rowD (capsIn bs fs h)) | _ => False
def sp_caps_of : Sp := fun vs H Q _ => match vs with | [v, u] => ∃ p P S, PL.ok P ∧ SY.ok S P.bs.length ∧ Rep p H P.d v ∧ Rep p H S.d u ∧ ret H Q p (capsD P S) | _ => False
theorem Rep.plant {p : Addr} {H : Hp} {P : PL} {v : V} (r : Rep p H P.d v) : ∃ A B E M xb xe, v = .ref A ∧ H A = some (.tup [.ref B, .ref E, .ref M]) ∧ H B = some (.tup xb) ∧ Reps p H (P.bs.map bD) xb ∧ H E = some (.tup xe) ∧ Reps p H (P.es.map eD) xe ∧ H M = some (.tup [.int P.lo, .int P.hi, .int P.st]) := by
 unfold PL.d at r
 obtain ⟨A, xs, rfl, hA, rs⟩ := Rep.shape r
 obtain ⟨x, y, z, rfl, rx, ry, rz⟩ := Reps.three rs
 obtain ⟨B, xb, rfl, hB, rb⟩ := Rep.shape rx
 obtain ⟨E, xe, rfl, hE, re⟩ := Rep.shape ry
 obtain ⟨M, xm, rfl, hM, rm⟩ := Rep.shape rz
 obtain ⟨m1, m2, m3, rfl, r1, r2, r3⟩ := Reps.three rm
 unfold Rep at r1 r2 r3
 subst r1 r2 r3
 exact ⟨A, B, E, M, xb, xe, rfl, hA, hB, rb, hE, re, hM⟩
theorem Rep.story {p : Addr} {H : Hp} {S : SY} {v : V} (r : Rep p H S.d v) : ∃ A B E xf, v = .ref A ∧ H A = some (.tup [.ref B, .ref E]) ∧ H B = some (.tup (S.ex.map V.int)) ∧ H E = some (.tup xf) ∧ Reps p H (S.fs.map FT.d) xf := by
 unfold SY.d at r
 obtain ⟨A, xs, rfl, hA, rs⟩ := Rep.shape r
 obtain ⟨x, y, rfl, rx, ry⟩ := Reps.two rs
 obtain ⟨B, xb, rfl, hB, rb⟩ := Rep.shape rx
 obtain ⟨E, xe, rfl, hE, re⟩ := Rep.shape ry
 rw [Reps.ints rb] at hB
 exact ⟨A, B, E, xe, rfl, hA, hB, hE, re⟩
section
variable {P : Program} {w : World} {K : PySem.W.Frag} {mg : Str → Option Value} {base : Heap}
theorem sc_need_plant : FnScope ["plant"] ["plant"] (defScope s_need_plant) := ⟨rfl, rfl, rfl, by decide +kernel, rfl, by decide +kernel, by decide +kernel⟩
theorem ok_need_plant (F : Df K mg "need_plant" s_need_plant ["plant"]) (T : Tx mg) (D_is_plant : Fn P w K mg base 5 "is_plant" ["thing"] sp_is_plant) : Fn P w K mg base 6 "need_plant" ["plant"] sp_need_plant := by
 refine F.fn sc_need_plant (fun vs H Q E h => ?_) (fun f cdv A outer s H vs Q E hr h => ?_)
 ·unfold sp_need_plant at h; split at h; rfl; exact h.elim
 refine ⟨_, (pss_one (c_if (pt_not (c_val (c_call D_is_plant (hr.mono (by decide)) rfl (pb1 (cy 0))))) (pss_one ps_never) pss_nil)), ?_⟩
 unfold sp_need_plant at h
 split at h
 ·rename_i v
  obtain ⟨p, P, ok, r, q⟩ := h
  refine ⟨p, _, r, fun b H' hb s => ⟨fun c => ?_, fun c => q H' s⟩⟩
  rw [hb, isPlant_ok ok] at c
  cases c
 ·exact h.elim
theorem sc_is_fault : FnScope ["thing", "boilers", "hours", "boiler", "word", "first", "last"] ["thing", "boilers", "hours"] (defScope s_is_fault) := ⟨rfl, rfl, rfl, by decide +kernel, rfl, by decide +kernel, by decide +kernel⟩
theorem ok_is_fault (F : Df K mg "is_fault" s_is_fault ["thing", "boilers", "hours"]) (T : Tx mg) (D_is_tuple_of : Fn P w K mg base 1 "is_tuple_of" ["thing", "fewest", "most"] sp_is_tuple_of) (D_is_whole_from : Fn P w K mg base 2 "is_whole_from" ["thing", "least", "most"] sp_is_whole_from) : Fn P w K mg base 3 "is_fault" ["thing", "boilers", "hours"] sp_is_fault := by
 refine F.fn sc_is_fault (fun vs H Q E h => ?_) (fun f cdv A outer s H vs Q E hr h => ?_)
 ·unfold sp_is_fault at h; split at h; rfl; exact h.elim
 refine ⟨_, (pss_cons (c_if (pt_not (c_val (c_call D_is_tuple_of (hr.mono (by decide)) rfl (pb3 (cy 0) pe_int pe_int)))) (pss_one (ps_ret pe_bl)) pss_nil) (pss_cons (ps_asg (cy 0) (pgT K (n := 4) (pgs_cons (pgy 3 sc_is_fault.nd) (pgs_cons (pgy 4 sc_is_fault.nd) (pgs_cons (pgy 5 sc_is_fault.nd) (pgs_cons (pgy 6 sc_is_fault.nd) pgs_nil)))))) (pss_one (ps_ret (c_andV (c_call D_is_whole_from (hr.mono (by decide)) rfl (pb3 (cy 3) pe_int (pe_op o_sub (cy 1) pe_int))) (c_andV (pe_cmpR (inS K) (cy 4) (c_tup (pb2 pe_str pe_str)) (by with_unfolding_all rfl)) (c_andV (c_call D_is_whole_from (hr.mono (by decide)) rfl (pb3 (cy 6) pe_int (pe_op o_sub (cy 2) pe_int))) (pe_one (c_call D_is_whole_from (hr.mono (by decide)) rfl (pb3 (cy 5) pe_int (cy 6))))))))))), ?_⟩
 unfold sp_is_fault at h
 split at h
 ·rename_i v nb hs
  obtain ⟨p, x, n, k, ok, rfl, rfl, r, q⟩ := h
  obtain ⟨o1, o2, o3, o4, o5⟩ := ok
  refine ⟨p, _, r, fun b hb => ⟨fun c => ?_, fun c => ?_⟩⟩
  ·rw [hb] at c; cases c
  ·obtain ⟨l, xs, rfl, hl, rs⟩ := Rep.shape r
   obtain ⟨y1, y2, y3, y4, rfl, r1, r2, r3, r4⟩ := Reps.four rs
   unfold Rep at r1 r2 r3 r4
   subst r1 r2 r3 r4
   refine ⟨l, _, rfl, SqT.of hl, rfl, _, _, rfl, _, _, rfl, _, _, rfl, _, _, rfl, rfl, p, .int x.b, Rep.int, fun b1 e1 => ⟨fun _ => ?_, fun c1 => ?_⟩⟩
   ·refine fun t ht => ⟨t, _, rfl, .inr (SqT.of upd_same), rfl, rfl, ⟨fun _ => ?_, fun c2 => ?_⟩⟩
    ·refine ⟨p, .int x.l, Rep.int, fun b2 e2 => ⟨fun _ => ⟨p, .int x.f, Rep.int, fun b3 e3 => ?_⟩, fun c2 => ?_⟩⟩
     ·rw [isWF_ok o3 o4] at e3
      subst e3
      exact q _ (Same.new ht)
     ·rw [isWF_ok (by omega) (by omega)] at e2
      rw [e2] at c2; cases c2
    ·rw [if_neg (by decide)] at c2
     have := word_known x.out
     unfold wV at this
     rw [this] at c2; cases c2
   ·rw [isWF_ok o1 (by omega)] at e1
    rw [e1] at c1; cases c1
 ·exact h.elim
theorem sc_is_story : FnScope ["plant", "thing", "extra", "faults"] ["plant", "thing"] (defScope s_is_story) := ⟨rfl, rfl, rfl, by decide +kernel, rfl, by decide +kernel, by decide +kernel⟩
theorem ok_is_story (F : Df K mg "is_story" s_is_story ["plant", "thing"]) (T : Tx mg) (D_is_fault : Fn P w K mg base 3 "is_fault" ["thing", "boilers", "hours"] sp_is_fault) (D_is_tuple_of : Fn P w K mg base 1 "is_tuple_of" ["thing", "fewest", "most"] sp_is_tuple_of) (D_is_whole_from : Fn P w K mg base 2 "is_whole_from" ["thing", "least", "most"] sp_is_whole_from) (D_need_plant : Fn P w K mg base 6 "need_plant" ["plant"] sp_need_plant) : Fn P w K mg base 7 "is_story" ["plant", "thing"] sp_is_story := by
 obtain ⟨t_MOST_EXTRA, g_MOST_EXTRA⟩ := T.g_MOST_EXTRA
 obtain ⟨t_MOST_FAULTS, g_MOST_FAULTS⟩ := T.g_MOST_FAULTS
 obtain ⟨t_MOST_HOURS, g_MOST_HOURS⟩ := T.g_MOST_HOURS
 refine F.fn sc_is_story (fun vs H Q E h => ?_) (fun f cdv A outer s H vs Q E hr h => ?_)
 ·unfold sp_is_story at h; split at h; rfl; exact h.elim
 refine ⟨_, (pss_cons (ps_expr (c_call D_need_plant (hr.mono (by decide)) rfl (pb1 (cy 0)))) (pss_cons (c_if (pt_not (c_val (c_call D_is_tuple_of (hr.mono (by decide)) rfl (pb3 (cy 1) pe_int pe_int)))) (pss_one (ps_ret pe_bl)) pss_nil) (pss_cons (ps_asg (cy 1) (pgT K (n := 2) (pgs_cons (pgy 2 sc_is_story.nd) (pgs_cons (pgy 3 sc_is_story.nd) pgs_nil)))) (pss_one (ps_ret (c_andV (c_call D_is_tuple_of (hr.mono (by decide)) rfl (pb3 (cy 2) pe_int (pe_glob (v := .int 8) rfl g_MOST_HOURS ⟨t_MOST_HOURS, rfl⟩))) (c_andV (pe_callB (call_all rfl) rfl T.b_all boot_all (pb1 (pe_comp ["units"] [none] rfl (piT K (cy 2)) (BlockScope.of rfl) (fun _ _ _ _ => (pgy 0 (nd_of (by rfl)))) (fun _ _ _ _ => pts_nil) (fun _ _ _ _ => (c_call D_is_whole_from (hr.mono (by decide)) rfl (pb3 (cy 0) pe_int (pe_glob (v := .int 20) rfl g_MOST_EXTRA ⟨t_MOST_EXTRA, rfl⟩))))))) (c_andV (c_call D_is_tuple_of (hr.mono (by decide)) rfl (pb3 (cy 3) pe_int (pe_glob (v := .int 4) rfl g_MOST_FAULTS ⟨t_MOST_FAULTS, rfl⟩))) (pe_one (pe_callB (call_all rfl) rfl T.b_all boot_all (pb1 (pe_comp ["part", "extra", "plant"] [none, some 2, some 0] rfl (piT K (cy 3)) (BlockScope.of rfl) (fun _ _ _ _ => (pgy 0 (nd_of (by rfl)))) (fun _ _ _ _ => pts_nil) (fun _ _ _ _ => (c_call D_is_fault (hr.mono (by decide)) rfl (pb3 (cy 0) (pe_callB (lenS K) rfl T.b_len PySem.boot_len (pb1 (pe_ix (ixT K) (cy 2) pe_int (fun _ _ => rfl)))) (pe_callB (lenS K) rfl T.b_len PySem.boot_len (pb1 (cy 1)))))))))))))))))), ?_⟩
 unfold sp_is_story at h
 split at h
 ·rename_i v u
  obtain ⟨p, P, S, ok, so, r, ru, q⟩ := h
  refine ⟨p, P, ok, r, fun H1 s1 => ⟨p, S.d, Rep.ev (Ev.same s1) _ _ ru, fun b hb => ⟨fun c => ?_, fun c => ?_⟩⟩⟩
  ·rw [hb] at c; cases c
  ·obtain ⟨A, B, E, xf, rfl, hA, hB, hE, rf⟩ := Rep.story (Rep.ev (Ev.same s1) _ _ ru)
   obtain ⟨PA, PB, PE, PM, xb, xe, rfl, pA, pB, rb, pE, re, pM⟩ := Rep.plant (Rep.ev (Ev.same s1) _ _ r)
   have x1 := so.x1
   have x8 := so.x8
   have f4 := so.f4
   have lf := rf.len
   rw [List.length_map] at lf
   have lb := rb.len
   rw [List.length_map] at lb
   refine ⟨A, _, rfl, SqT.of hA, rfl, _, _, rfl, _, _, rfl, rfl, p, _, Rep.row hB, fun b1 e1 => ⟨fun _ => ?_, fun c1 => ?_⟩⟩
   ·refine ⟨B, rfl, ⟨_, SqT.of hB⟩, walk_tup (xs := S.ex.map V.int) (fun i ys H' => Same H1 H' ∧ ys = List.replicate i (V.bl true)) (by rw [List.length_map]; omega) ⟨Same.refl _, rfl⟩ (fun i ys H' h => by rw [h.2, List.length_replicate]; omega) (fun i ys H' _ h => SqT.of (h.1 _ _ hB)) (fun i x ys H' hx h => ?_) fun ys H' h => ?_⟩
    ·rw [List.getElem?_map] at hx
     cases z : S.ex[i]? with
     | none => rw [z] at hx; cases hx
     | some n =>
      rw [z] at hx
      cases hx
      obtain ⟨n0, n20⟩ := so.x n (List.mem_of_getElem? z)
      refine ⟨trivial, fun _ => ⟨p, .int n, Rep.int, fun b e => ⟨h.1, ?_⟩⟩, fun c => by cases c⟩
      rw [isWF_ok n0 n20] at e
      rw [h.2, e, List.replicate_succ']
    ·intro m hm
     refine ⟨m, List.replicate S.ex.length true, rfl, by rw [upd_same, h.2, List.length_map, List.map_replicate], ⟨fun _ => ?_, fun c => ?_⟩⟩
     ·have s2 : Same H1 (upd H' m (.lst ys)) := h.1.trans (Same.new hm)
      refine ⟨p, _, Rep.tup (s2 _ _ hE) (Reps.ev (Ev.same s2) _ _ rf), fun b2 e2 => ⟨fun _ => ?_, fun c2 => ?_⟩⟩
      ·refine ⟨E, rfl, ⟨_, SqT.of (s2 _ _ hE)⟩, walk_tup (xs := xf) (fun i zs H2 => Same H1 H2 ∧ zs = List.replicate i (V.bl true)) (by omega) ⟨s2, rfl⟩ (fun i ys H' h => by rw [h.2, List.length_replicate]; omega) (fun i ys H' _ h => SqT.of (h.1 _ _ hE)) (fun i x zs H2 hx h2 => ?_) fun zs H2 h2 => ?_⟩
       ·obtain ⟨f, hf, rd⟩ := Reps.mapGot rf hx
        refine ⟨⟨rfl, rfl, trivial⟩, fun _ => ?_, fun c => by cases c⟩
        refine ⟨PA, _, 0, .ref PB, rfl, rfl, SqT.of (h2.1 _ _ pA), rfl, PB, xb, rfl, .inr (SqT.of (h2.1 _ _ pB)), B, _, rfl, .inr (SqT.of (h2.1 _ _ hB)), ?_⟩
        refine ⟨p, f, P.bs.length, S.ex.length, so.f f (List.mem_of_getElem? hf), by rw [lb], by rw [List.length_map], Rep.ev (Ev.same h2.1) _ _ rd, fun H3 s3 => ⟨h2.1.trans s3, ?_⟩⟩
        rw [h2.2, List.replicate_succ']
       ·intro m2 hm2
        refine ⟨m2, List.replicate xf.length true, rfl, by rw [upd_same, h2.2, List.map_replicate], ?_⟩
        have ea : (List.replicate xf.length true).all id = true := by simp
        rw [ea]
        exact q _ (s1.trans (h2.1.trans (Same.new hm2)))
      ·rw [isTO_ok (by rw [List.length_map]; omega) (by rw [List.length_map]; omega)] at e2
       rw [e2] at c2; cases c2
     ·have ea : (List.replicate S.ex.length true).all id = true := by simp
      rw [ea] at c; cases c
   ·rw [isTO_ok (by rw [List.length_map]; omega) (by rw [List.length_map]; omega)] at e1
    rw [e1] at c1; cases c1
 ·exact h.elim
theorem sc_need_story : FnScope ["plant", "story"] ["plant", "story"] (defScope s_need_story) := ⟨rfl, rfl, rfl, by decide +kernel, rfl, by decide +kernel, by decide +kernel⟩
theorem ok_need_story (F : Df K mg "need_story" s_need_story ["plant", "story"]) (T : Tx mg) (D_is_story : Fn P w K mg base 7 "is_story" ["plant", "thing"] sp_is_story) : Fn P w K mg base 8 "need_story" ["plant", "story"] sp_need_story := by
 refine F.fn sc_need_story (fun vs H Q E h => ?_) (fun f cdv A outer s H vs Q E hr h => ?_)
 ·unfold sp_need_story at h; split at h; rfl; exact h.elim
 refine ⟨_, (pss_one (c_if (pt_not (c_val (c_call D_is_story (hr.mono (by decide)) rfl (pb2 (cy 0) (cy 1))))) (pss_one ps_never) pss_nil)), ?_⟩
 unfold sp_need_story at h
 split at h
 ·rename_i v u
  obtain ⟨p, P, S, ok, so, r, ru, q⟩ := h
  exact ⟨p, P, S, ok, so, r, ru, fun H' s => ⟨fun c => (by cases c), fun c => q H' s⟩⟩
 ·exact h.elim
theorem sc_cap_under : FnScope ["words", "make"] ["words", "make"] (defScope s_cap_under) := ⟨rfl, rfl, rfl, by decide +kernel, rfl, by decide +kernel, by decide +kernel⟩
theorem ok_cap_under (F : Df K mg "cap_under" s_cap_under ["words", "make"]) (T : Tx mg)  : Fn P w K mg base 1 "cap_under" ["words", "make"] sp_cap_under := by
 refine F.fn sc_cap_under (fun vs H Q E h => ?_) (fun f cdv A outer s H vs Q E hr h => ?_)
 ·unfold sp_cap_under at h; split at h; rfl; exact h.elim
 refine ⟨_, (pss_cons (c_if (c_cmpT (inS K) pe_str (cy 0) (by with_unfolding_all rfl)) (pss_one (ps_ret pe_int)) pss_nil) (pss_cons (c_if (c_cmpT (inS K) pe_str (cy 0) (by with_unfolding_all rfl)) (pss_one (ps_ret (pe_op o_fdiv (cy 1) pe_int))) pss_nil) (pss_one (ps_ret (cy 1))))), ?_⟩
 unfold sp_cap_under at h
 split at h
 ·rename_i a m
  obtain ⟨ws, ha, q⟩ := h
  refine ⟨a, _, rfl, .inl (SqL.of ha), rfl, flat_words, ⟨fun c => ?_, fun c => ?_⟩⟩
  ·rw [if_neg (by decide), in_out] at c
   have e : capU ws m = 0 := by unfold capU; rw [if_pos c]
   rw [e] at q
   exact q _ (Same.refl _)
  ·rw [if_neg (by decide), in_out] at c
   refine ⟨a, _, rfl, .inl (SqL.of ha), rfl, flat_words, ⟨fun c2 => ?_, fun c2 => ?_⟩⟩
   ·rw [if_neg (by decide), in_scaled] at c2
    have e : capU ws m = m / 2 := by unfold capU; rw [if_neg (by rw [c]; decide), if_pos c2]
    rw [e] at q
    exact ⟨⟨by decide, by decide⟩, q _ (Same.refl _)⟩
   ·rw [if_neg (by decide), in_scaled] at c2
    have e : capU ws m = m := by unfold capU; rw [if_neg (by rw [c]; decide), if_neg (by rw [c2]; decide)]
    rw [e] at q
    exact q _ (Same.refl _)
 ·exact h.elim
theorem sc_words_for : FnScope ["faults", "boiler", "hour"] ["faults", "boiler", "hour"] (defScope s_words_for) := ⟨rfl, rfl, rfl, by decide +kernel, rfl, by decide +kernel, by decide +kernel⟩
theorem ok_words_for (F : Df K mg "words_for" s_words_for ["faults", "boiler", "hour"]) (T : Tx mg)  : Fn P w K mg base 1 "words_for" ["faults", "boiler", "hour"] sp_words_for := by
 refine F.fn sc_words_for (fun vs H Q E h => ?_) (fun f cdv A outer s H vs Q E hr h => ?_)
 ·unfold sp_words_for at h; split at h; rfl; exact h.elim
 refine ⟨_, (pss_one (ps_ret (pe_comp ["at", "word", "first", "last", "boiler", "hour"] [none, none, none, none, some 1, some 2] rfl (piT K (cy 0)) (BlockScope.of rfl) (fun _ _ _ _ => (pgT K (n := 4) (pgs_cons (pgy 0 (nd_of (by rfl))) (pgs_cons (pgy 1 (nd_of (by rfl))) (pgs_cons (pgy 2 (nd_of (by rfl))) (pgs_cons (pgy 3 (nd_of (by rfl))) pgs_nil)))))) (fun _ _ _ _ => (pts_one (PW.pt (c_and (c_cmpT op_eq (cy 0) (cy 4) (nomark _)) (pw_and1 (c_chainT o_le o_le (cy 2) (cy 5) (cy 3))))))) (fun _ _ _ _ => (cy 1))))), ?_⟩
 unfold sp_words_for at h
 split at h
 ·rename_i v b hr'
  obtain ⟨p, fs, r, hl, q⟩ := h
  obtain ⟨A, xs, rfl, hA, rs⟩ := Rep.shape r
  have ln := rs.len
  rw [List.length_map] at ln
  refine ⟨A, rfl, ⟨xs, SqT.of hA⟩, walk_tup (xs := xs) (fun i ys H' => Same H H' ∧ ys = (wordsOf (fs.take i) b hr').map wV) (by omega) ⟨Same.refl _, rfl⟩ (fun i ys H' h => ?_) (fun i ys H' _ h => SqT.of (h.1 _ _ hA)) (fun i x ys H' hx h => ?_) fun ys H' h => ?_⟩
  ·rw [h.2, List.length_map]
   unfold wordsOf
   rw [List.length_map]
   exact Nat.le_trans (List.length_filter_le _ _) (by rw [List.length_take]; omega)
  ·obtain ⟨f, hf, rd⟩ := Reps.mapGot rs hx
   obtain ⟨l, zs, rfl, hl', rz⟩ := Rep.shape (Rep.ev (Ev.same h.1) _ _ rd)
   obtain ⟨y1, y2, y3, y4, rfl, r1, r2, r3, r4⟩ := Reps.four rz
   unfold Rep at r1 r2 r3 r4
   subst r1 r2 r3 r4
   have nx := words_next (b := b) (h := hr') hf
   have no : hitF b hr' f = false → Same H H' ∧ ys = (wordsOf (fs.take (i + 1)) b hr').map wV := fun e => ⟨h.1, by rw [nx, e, if_neg (by decide)]; exact h.2⟩
   refine ⟨l, _, rfl, SqT.of hl', rfl, _, _, rfl, _, _, rfl, _, _, rfl, _, _, rfl, rfl, ⟨rfl, rfl, trivial⟩, rfl, ⟨fun c1 => ⟨fun c2 => ⟨fun c3 => ?_, fun c3 => no ?_⟩, fun c2 => ⟨fun z => (by cases z), fun _ => no ?_⟩⟩, fun c1 => ⟨fun z => (by cases z), fun _ => no ?_⟩⟩⟩
   ·have e : hitF b hr' f = true := by
     rw [dec_int] at c1
     unfold hitF; rw [c1, c2, c3]; rfl
    refine ⟨h.1, ?_⟩
    rw [nx, if_pos e, List.map_append, h.2]; rfl
   ·unfold hitF; rw [c3, Bool.and_false]
   ·unfold hitF; rw [c2, Bool.and_false, Bool.false_and]
   ·rw [dec_int] at c1
    unfold hitF; rw [c1, Bool.false_and, Bool.false_and]
  ·intro m hm
   refine q m _ (h.1.trans (Same.new hm)) ?_
   rw [upd_same, h.2, List.take_of_length_le (by omega)]
 ·exact h.elim
theorem sc_caps_in : FnScope ["boilers", "faults", "hour"] ["boilers", "faults", "hour"] (defScope s_caps_in) := ⟨rfl, rfl, rfl, by decide +kernel, rfl, by decide +kernel, by decide +kernel⟩
theorem ok_caps_in (F : Df K mg "caps_in" s_caps_in ["boilers", "faults", "hour"]) (T : Tx mg) (D_cap_under : Fn P w K mg base 1 "cap_under" ["words", "make"] sp_cap_under) (D_words_for : Fn P w K mg base 1 "words_for" ["faults", "boiler", "hour"] sp_words_for) : Fn P w K mg base 2 "caps_in" ["boilers", "faults", "hour"] sp_caps_in := by
 refine F.fn sc_caps_in (fun vs H Q E h => ?_) (fun f cdv A outer s H vs Q E hr h => ?_)
 ·unfold sp_caps_in at h; split at h; rfl; exact h.elim
 refine ⟨_, (pss_one (ps_ret (pe_callTy (tupOf K) rfl T.b_tuple boot_tuple' (pb1 (pe_comp ["at", "make", "coal", "faults", "hour"] [none, none, none, some 1, some 2] rfl (piET P w K rfl T.b_enumerate (pb1 (cy 0))) (BlockScope.of rfl) (fun _ _ _ _ => (pgT K (n := 2) (pgs_cons (pgy 0 (nd_of (by rfl))) (pgs_cons (pgT K (n := 2) (pgs_cons (pgy 1 (nd_of (by rfl))) (pgs_cons (pgy 2 (nd_of (by rfl))) pgs_nil))) pgs_nil)))) (fun _ _ _ _ => pts_nil) (fun _ _ _ _ => (c_call D_cap_under (hr.mono (by decide)) rfl (pb2 (c_call D_words_for (hr.mono (by decide)) rfl (pb3 (cy 3) (cy 0) (cy 4))) (cy 1))))))))), ?_⟩
 unfold sp_caps_in at h
 split at h
 ·rename_i v u hour
  obtain ⟨p, bs, fs, r, ru, lb, lf, q⟩ := h
  obtain ⟨A, xs, rfl, hA, rs⟩ := Rep.shape r
  have ln := rs.len
  rw [List.length_map] at ln
  refine ⟨A, rfl, ⟨xs, SqT.of hA⟩, walk_enum (xs := xs) (fun i ys H' => Same H H' ∧ ys = ((capsIn bs fs hour).take i).map V.int) (by omega) ⟨Same.refl _, rfl⟩ (fun i ys H' h => by rw [h.2, List.length_map, List.length_take]; omega) (fun i ys H' h => SqT.of (h.1 _ _ hA)) (fun i x ys H' T hx h hT => ?_) fun ys H' h => ?_⟩
  ·obtain ⟨f, hf, rd⟩ := Reps.mapGot rs hx
   have s2 : Same H (upd H' T (.tup [.int i, x])) := h.1.trans (Same.new hT)
   obtain ⟨l, zs, rfl, hl', rz⟩ := Rep.shape (Rep.ev (Ev.same s2) _ _ rd)
   obtain ⟨y1, y2, rfl, r1, r2⟩ := Reps.two rz
   unfold Rep at r1 r2
   subst r1 r2
   refine ⟨T, _, rfl, SqT.of upd_same, rfl, _, _, rfl, _, _, rfl, l, _, rfl, SqT.of hl', rfl, _, _, rfl, _, _, rfl, rfl, rfl, ⟨rfl, rfl, trivial⟩, fun _ => ?_, fun z => by cases z⟩
   refine ⟨p, fs, Rep.ev (Ev.same s2) _ _ ru, lf, fun a H3 s3 ha => ⟨_, ha, fun H4 s4 => ⟨s2.trans (s3.trans s4), ?_⟩⟩⟩
   rw [take_next (capsIn_get hf), List.map_append, h.2]; rfl
  ·intro m hm
   refine ⟨m, _, rfl, .inl ⟨SqL.of upd_same, fun t ht => ?_⟩⟩
   refine q _ _ (h.1.trans ((Same.new hm).trans (Same.new ht))) (Rep.row ?_)
   rw [upd_same, h.2, List.take_of_length_le (by rw [capsIn_len]; omega)]
 ·exact h.elim
theorem sc_caps_of : FnScope ["plant", "story", "extra", "faults"] ["plant", "story"] (defScope s_caps_of) := ⟨rfl, rfl, rfl, by decide +kernel, rfl, by decide +kernel, by decide +kernel⟩
theorem ok_caps_of (F : Df K mg "caps_of" s_caps_of ["plant", "story"]) (T : Tx mg) (D_caps_in : Fn P w K mg base 2 "caps_in" ["boilers", "faults", "hour"] sp_caps_in) (D_need_story : Fn P w K mg base 8 "need_story" ["plant", "story"] sp_need_story) : Fn P w K mg base 9 "caps_of" ["plant", "story"] sp_caps_of := by
 refine F.fn sc_caps_of (fun vs H Q E h => ?_) (fun f cdv A outer s H vs Q E hr h => ?_)
 ·unfold sp_caps_of at h; split at h; rfl; exact h.elim
 refine ⟨_, (pss_cons (ps_expr (c_call D_need_story (hr.mono (by decide)) rfl (pb2 (cy 0) (cy 1)))) (pss_cons (ps_asg (cy 1) (pgT K (n := 2) (pgs_cons (pgy 2 sc_caps_of.nd) (pgs_cons (pgy 3 sc_caps_of.nd) pgs_nil)))) (pss_one (ps_ret (pe_callTy (tupOf K) rfl T.b_tuple boot_tuple' (pb1 (pe_comp ["hour", "faults", "plant"] [none, some 3, some 0] rfl (pi_range1 rfl T.b_range (pb1 (pe_callB (lenS K) rfl T.b_len PySem.boot_len (pb1 (cy 2))))) (BlockScope.of rfl) (fun _ _ _ _ => (pgy 0 (nd_of (by rfl)))) (fun _ _ _ _ => pts_nil) (fun _ _ _ _ => (c_call D_caps_in (hr.mono (by decide)) rfl (pb3 (pe_ix (ixT K) (cy 2) pe_int (fun _ _ => rfl)) (cy 1) (cy 0))))))))))), ?_⟩
 unfold sp_caps_of at h
 split at h
 ·rename_i v u
  obtain ⟨p, P, S, ok, so, r, ru, q⟩ := h
  refine ⟨p, P, S, ok, so, r, ru, fun H1 s1 => ?_⟩
  obtain ⟨A, B, E, xf, rfl, hA, hB, hE, rf⟩ := Rep.story (Rep.ev (Ev.same s1) _ _ ru)
  obtain ⟨PA, PB, PE, PM, xb, xe, rfl, pA, pB, rb, pE, re, pM⟩ := Rep.plant (Rep.ev (Ev.same s1) _ _ r)
  have x8 := so.x8
  have f4 := so.f4
  have b4 := ok.b4
  refine ⟨A, _, rfl, SqT.of hA, rfl, _, _, rfl, _, _, rfl, rfl, B, _, rfl, .inr (SqT.of hB), _, rfl, by omega, by rw [List.length_map]; omega, walk_range (n := (S.ex.map V.int).length) (fun i ys H' => Same H1 H' ∧ Reps p H' (((caps P S).take i).map rowD) ys) (by rw [List.length_map]; omega) ⟨Same.refl _, .nil⟩ (fun i ys H' h => by rw [← h.2.len, List.length_map, List.length_take]; omega) (fun i ys H' hi h => ?_) fun ys H' h => ?_⟩
  ·rw [List.length_map] at hi
   refine ⟨⟨rfl, rfl, trivial⟩, fun _ => ?_, fun z => by cases z⟩
   refine ⟨PA, _, 0, .ref PB, rfl, rfl, SqT.of (h.1 _ _ pA), rfl, p, P.bs, S.fs, Rep.tup (h.1 _ _ pB) (Reps.ev (Ev.same h.1) _ _ rb), Rep.tup (h.1 _ _ hE) (Reps.ev (Ev.same h.1) _ _ rf), by omega, by omega, fun v2 H2 s2 r2 => ⟨h.1.trans s2, ?_⟩⟩
   rw [Int.zero_add] at r2
   rw [take_next (caps_get hi), List.map_append]
   exact Reps.snoc (Reps.ev (Ev.same s2) _ _ h.2) r2
  ·intro m hm
   refine ⟨m, _, rfl, .inl ⟨SqL.of upd_same, fun t ht => ?_⟩⟩
   have s3 := (Same.new (o := .lst ys) hm).trans (Same.new (o := .tup ys) ht)
   refine q _ _ (s1.trans (h.1.trans s3)) (Rep.tup upd_same ?_)
   have r3 := Reps.ev (Ev.same s3) _ _ h.2
   rw [List.take_of_length_le (by rw [caps_len, List.length_map]; exact Nat.le_refl _)] at r3
   exact r3
 ·exact h.elim
end
end MF

end

section
namespace MF
open PySem PySem.Spec PyProof.Rows L2
theorem typedB : ∀ {bs : List PyData}, (∀ d ∈ bs, GoodB d) → ∃ l : List (Int × Int), bs = l.map bD ∧ ∀ q ∈ l, 1 ≤ q.1 ∧ q.1 ≤ 9 ∧ 1 ≤ q.2 ∧ q.2 ≤ 9
 | [], _ => ⟨[], rfl, fun _ h => nomatch h⟩
 | d :: ds, h => by
  obtain ⟨l, e, g⟩ := typedB fun x hx => h x (List.mem_cons_of_mem _ hx)
  obtain ⟨m, c, rfl, a1, a2, a3, a4⟩ := h d List.mem_cons_self
  refine ⟨(m, c) :: l, by rw [e]; rfl, fun q hq => ?_⟩
  rcases List.mem_cons.mp hq with rfl | hq
  ·exact ⟨a1, a2, a3, a4⟩
  ·exact g q hq
theorem typedE : ∀ {es : List PyData}, (∀ d ∈ es, GoodE d) → ∃ l : List (Int × Int × Int), es = l.map eD ∧ ∀ q ∈ l, 1 ≤ q.1 ∧ q.1 ≤ 9 ∧ 0 ≤ q.2.1 ∧ q.2.1 ≤ 7 ∧ 1 ≤ q.2.2 ∧ q.2.2 ≤ 8
 | [], _ => ⟨[], rfl, fun _ h => nomatch h⟩
 | d :: ds, h => by
  obtain ⟨l, e, g⟩ := typedE fun x hx => h x (List.mem_cons_of_mem _ hx)
  obtain ⟨m, c, k, rfl, a1, a2, a3, a4, a5, a6⟩ := h d List.mem_cons_self
  refine ⟨(m, c, k) :: l, by rw [e]; rfl, fun q hq => ?_⟩
  rcases List.mem_cons.mp hq with rfl | hq
  ·exact ⟨a1, a2, a3, a4, a5, a6⟩
  ·exact g q hq
theorem GoodP.pl {bs es : List PyData} {lo hi st : Int} (g : GoodP bs es lo hi st) : ∃ P : PL, P.ok ∧ plantD bs es lo hi st = P.d := by
 obtain ⟨lb, rfl, hb⟩ := typedB g.b
 obtain ⟨le, rfl, he⟩ := typedE g.e
 have b1 := g.b1
 have b4 := g.b4
 have e4 := g.e4
 rw [List.length_map] at b1 b4 e4
 exact ⟨⟨lb, le, lo, hi, st⟩, ⟨hb, b1, b4, he, e4, g.lo0, g.ls, g.sh, g.h4⟩, rfl⟩
theorem noMut_row (r : List Int) : noMut (rowD r) = true := by
 unfold noMut
 exact noMuts_all fun d hd => by
  obtain ⟨i, _, rfl⟩ := List.mem_map.mp hd
  rfl
theorem one_if (k : Bool) : 0 < (1 : Int) + (if k = true then 1 else 0) ∧ (1 : Int) + (if k = true then 1 else 0) < 1073741824 := by cases k <;> decide
def GoodF (n h : Nat) (d : PyData) : Prop := ∃ x : FT, d = x.d ∧ x.ok n h
theorem GoodF.nm {n h : Nat} {d : PyData} (g : GoodF n h d) : noMut d = true := by obtain ⟨x, rfl, _⟩ := g; rfl
theorem typedF {n h : Nat} : ∀ {es : List PyData}, (∀ d ∈ es, GoodF n h d) → ∃ l : List FT, es = l.map FT.d ∧ ∀ q ∈ l, q.ok n h
 | [], _ => ⟨[], rfl, fun _ h => nomatch h⟩
 | d :: ds, hh => by
  obtain ⟨l, e, g⟩ := typedF fun x hx => hh x (List.mem_cons_of_mem _ hx)
  obtain ⟨x, rfl, a1⟩ := hh d List.mem_cons_self
  refine ⟨x :: l, by rw [e]; rfl, fun q hq => ?_⟩
  rcases List.mem_cons.mp hq with rfl | hq
  ·exact a1
  ·exact g q hq
def sp__law_story : Sp := fun vs H Q _ => match vs with | [.ref p, v] => Pen p H ∧ ∃ P, PL.ok P ∧ Rep p H P.d v ∧ ∀ u H' S, SY.ok S P.bs.length → Rep p H' S.d u → Ev p H H' → Pen p H' → Q u H' | _ => False
def sp__law_caps : Sp := fun vs H Q _ => match vs with | [v, u] => ∃ p P S, PL.ok P ∧ SY.ok S P.bs.length ∧ Rep p H P.d v ∧ Rep p H S.d u ∧ ret H Q p (capsD P S) | _ => False
section
variable {P : Program} {w : World} {K : PySem.W.Frag} {mg : Str → Option Value} {base : Heap}
theorem sc__law_story : FnScope ["_law_pen_here", "_law_plant_here", "_law_hours", "_law_most", "_law_faults", "_law_turn", "_law_first", "_law_last"] ["_law_pen_here", "_law_plant_here"] (defScope s__law_story) := ⟨rfl, rfl, rfl, by decide +kernel, rfl, by decide +kernel, by decide +kernel⟩
theorem ok__law_story (F : Df K mg "_law_story" s__law_story ["_law_pen_here", "_law_plant_here"]) (T : Tx mg) (D__law_draw : Fn P w K mg base 1 "_law_draw" ["_law_pen_here", "_law_many"] sp__law_draw) : Fn P w K mg base 2 "_law_story" ["_law_pen_here", "_law_plant_here"] sp__law_story := by
 refine F.fn sc__law_story (fun vs H Q E h => ?_) (fun f cdv A outer s H vs Q E hr h => ?_)
 ·unfold sp__law_story at h; split at h; rfl; exact h.elim
 refine ⟨_, (pss_cons (ps_asg (c_tup (pb2 (pe_op o_add pe_int (c_call D__law_draw (hr.mono (by decide)) rfl (pb2 (cy 0) pe_int))) (pe_ix (ixL K) (c_lst (pb4 pe_int pe_int pe_int pe_int)) (c_call D__law_draw (hr.mono (by decide)) rfl (pb2 (cy 0) pe_int)) (fun _ _ => rfl)))) (pgT K (n := 2) (pgs_cons (pgy 2 sc__law_story.nd) (pgs_cons (pgy 3 sc__law_story.nd) pgs_nil)))) (pss_cons (ps_set (i := 4) sc__law_story.nd rfl (loc_of (by rfl)) (c_lst pa_nil)) (pss_cons (ps_for PassesOwn.never rfl (pi_range1 rfl T.b_range (pb1 (c_call D__law_draw (hr.mono (by decide)) rfl (pb2 (cy 0) pe_int)))) (pgy 5 sc__law_story.nd) (pss_cons (ps_set (i := 6) sc__law_story.nd rfl (loc_of (by rfl)) (c_call D__law_draw (hr.mono (by decide)) rfl (pb2 (cy 0) (cy 2)))) (pss_cons (ps_set (i := 7) sc__law_story.nd rfl (loc_of (by rfl)) (pe_op o_add (cy 6) (c_call D__law_draw (hr.mono (by decide)) rfl (pb2 (cy 0) (pe_op o_sub (cy 2) (cy 6)))))) (pss_one (ps_expr (pe_bm PySem.F.plainAttrs_list PySem.F.slot_list_append PySem.F.type_list_append mt_append (cy 4) (pb1 (c_tup (pb4 (c_call D__law_draw (hr.mono (by decide)) rfl (pb2 (cy 0) (pe_callB (lenS K) rfl T.b_len PySem.boot_len (pb1 (pe_ix (ixT K) (cy 1) pe_int (fun _ _ => rfl)))))) (pe_ix (ixL K) (c_lst (pb2 pe_str pe_str)) (c_call D__law_draw (hr.mono (by decide)) rfl (pb2 (cy 0) pe_int)) (fun _ _ => rfl)) (cy 6) (cy 7)))))))))) (pss_one (ps_ret (c_tup (pb2 (pe_callTy (tupOf K) rfl T.b_tuple boot_tuple' (pb1 (pe_comp ["_law_hour", "_law_pen_here", "_law_most"] [none, some 0, some 3] rfl (pi_range1 rfl T.b_range (pb1 (cy 2))) (BlockScope.of rfl) (fun _ _ _ _ => (pgy 0 (nd_of (by rfl)))) (fun _ _ _ _ => pts_nil) (fun _ _ _ _ => (c_call D__law_draw (hr.mono (by decide)) rfl (pb2 (cy 1) (cy 2))))))) (pe_callTy (tupOf K) rfl T.b_tuple boot_tuple' (pb1 (cy 4)))))))))), ?_⟩
 unfold sp__law_story at h
 split at h
 ·rename_i p v
  obtain ⟨pn, P, ok, r, q⟩ := h
  have b1 := ok.b1
  have b4 := ok.b4
  refine ⟨pn, by decide, by decide, fun g1 H1 a1 c1 e1 pn1 l1 hl1 => ⟨pn1.new hl1, by decide, by decide, fun g2 H2 a2 c2 e2 pn2 => ?_⟩⟩
  obtain ⟨mo, hmo, hat⟩ := pick (ns := [1, 4, 9, 21]) a2 (by simpa using c2)
  have hmo' : 1 ≤ mo ∧ mo ≤ 21 := by
   simp only [List.mem_cons, List.not_mem_nil, or_false] at hmo
   omega
  refine ⟨l1, _, g2, .int mo, rfl, rfl, SqL.of (e2.lst upd_same (pn1.ne hl1)), hat, fun l0 hl0 => ⟨l0, _, rfl, SqT.of upd_same, rfl, _, _, rfl, _, _, rfl, rfl, fun b hb => ?_⟩⟩
  have eA : Ev p H (upd H2 l0 (.tup [.int (1 + g1), .int mo])) := e1.trans ((Ev.new hl1).trans (e2.trans (Ev.new hl0)))
  replace pn2 := pn2.new (o := .tup [.int (1 + g1), .int mo]) hl0
  have nb : b ≠ p := pn2.ne hb
  have hbH : H b = none := by
   cases z : H b with
   | none => rfl
   | some o => exact ((eA b o z).elim (fun ⟨x, _⟩ => absurd x nb) fun x => by rw [x] at hb; cases hb)
  refine ⟨pn2.new hb, by decide, by decide, fun g3 H3 a3 c3 e3 pn3 => ⟨g3, rfl, by omega, by omega, for_range (n := g3.toNat) (fun i σ H4 => ∃ t f l, σ = [some (.ref p), some v, some (.int (1 + g1)), some (.int mo), some (.ref b), t, f, l] ∧ Filled (GoodF P.bs.length (1 + g1).toNat) p b H H4 i)
   ⟨_, _, _, rfl, eA.trans ((Ev.new hb).trans e3), pn3, [], [], e3.lst upd_same nb, .nil, (fun _ h => nomatch h), rfl⟩ (fun i σ H4 hi hP => ?_) fun σ H4 hP => ?_⟩⟩
  ·obtain ⟨t, f, l, rfl, ev, pn4, xs, ds, hx, rs, gd, hl⟩ := hP
   refine ⟨pn4, by omega, by omega, fun f1 H5 a5 c5 e5 pn5 => ⟨pn5, by omega, by omega, fun f2 H6 a6 c6 e6 pn6 => ?_⟩⟩
   have e46 : Ev p H4 H6 := e5.trans e6
   obtain ⟨PA, PB, PE, PM, xb, xe, rfl, pA, pB, rb, pE, re, pM⟩ := Rep.plant (Rep.ev (ev.trans e46) _ _ r)
   have lb := rb.len
   rw [List.length_map] at lb
   refine ⟨.inl ⟨rfl, _, SqL.of (e46.lst hx nb)⟩, PA, _, 0, .ref PB, rfl, rfl, SqT.of pA, rfl, PB, xb, rfl, .inr (SqT.of pB), pn6, by omega, by omega, fun f3 H7 a7 c7 e7 pn7 l2 hl2 => ⟨pn7.new hl2, by decide, by decide, fun g4 H8 a8 c8 e8 pn8 => ?_⟩⟩
   have hw : ∃ bb : Bool, atI [V.str "out", .str "scaled"] g4 = some (wV bb) := by
    have : g4 = 0 ∨ g4 = 1 := by omega
    rcases this with rfl | rfl
    ·exact ⟨true, rfl⟩
    ·exact ⟨false, rfl⟩
   obtain ⟨bb, hw⟩ := hw
   refine ⟨l2, _, g4, wV bb, rfl, rfl, SqL.of (e8.lst upd_same (pn7.ne hl2)), hw, fun t1 ht1 => ?_⟩
   have e48 : Ev p H4 H8 := e46.trans (e7.trans ((Ev.new hl2).trans e8))
   refine ⟨b, xs, .ref t1, rfl, rfl, by rw [upd_ne (ne_of_none (e48.lst hx nb) ht1)]; exact e48.lst hx nb, small63 (by rw [← rs.len, hl]; omega), _, _, _, rfl, ?_⟩
   exact Filled.step (fun d h => h.nm) hx rs gd hl e48 nb hbH (ev.trans e48) pn8 ht1 (Rep.tup upd_same (.cons Rep.int (.cons Rep.str (.cons Rep.int (.cons Rep.int .nil))))) ⟨⟨f3, bb, f1, f1 + f2⟩, rfl, ⟨a7, by show f3 < _; omega, a5, by show f1 ≤ f1 + f2; omega, by show f1 + f2 < _; omega⟩⟩
  ·obtain ⟨t, f, l, rfl, fb⟩ := hP
   refine ⟨_, rfl, by omega, by omega, walk_range (n := (1 + g1).toNat) (fun i ys H5 => Ev p H4 H5 ∧ Pen p H5 ∧ ∃ ns : List Int, ys = ns.map V.int ∧ ns.length = i ∧ ∀ u ∈ ns, 0 ≤ u ∧ u ≤ 20) (by omega) ⟨Ev.refl, fb.pen, [], rfl, rfl, (fun _ h => nomatch h)⟩ (fun i ys H5 h => ?_) (fun i ys H5 hi h => ?_) fun ys H5 h => ?_⟩
   ·obtain ⟨_, _, ns, rfl, hn, _⟩ := h
    rw [List.length_map]; omega
   ·obtain ⟨e5, pn5, ns, rfl, hn, hu⟩ := h
    refine ⟨⟨rfl, rfl, trivial⟩, fun _ => ⟨pn5, by omega, by omega, fun g6 H6 a6 c6 e6 pn6 => ⟨e5.trans e6, pn6, ns ++ [g6], by rw [List.map_append]; rfl, by rw [List.length_append, hn]; rfl, fun u hu' => ?_⟩⟩, fun z => by cases z⟩
    rcases List.mem_append.mp hu' with h | h
    ·exact hu u h
    ·rw [List.mem_singleton.mp h]; omega
   ·obtain ⟨e5, pn5, ns, rfl, hn, hu⟩ := h
    intro m hm
    obtain ⟨xs, fs, hb5, rb5, gf, lf⟩ := fb.done nb e5
    refine ⟨m, _, rfl, .inl ⟨SqL.of upd_same, fun t1 ht1 => ⟨b, xs, rfl, .inl ⟨SqL.of ?_, fun t2 ht2 t3 ht3 => ?_⟩⟩⟩⟩
    ·exact ((Same.new hm).trans (Same.new ht1)) _ _ hb5
    ·obtain ⟨lF, rfl, gl⟩ := typedF gf
     rw [List.length_map] at lf
     have s5 : Same H5 (upd (upd (upd (upd H5 m (.lst (ns.map V.int))) t1 (.tup (ns.map V.int))) t2 (.tup xs)) t3 (.tup [.ref t1, .ref t2])) := (Same.new hm).trans ((Same.new ht1).trans ((Same.new ht2).trans (Same.new ht3)))
     refine q _ _ ⟨ns, lF⟩ ⟨by show 1 ≤ ns.length; omega, by show ns.length ≤ 8; omega, hu, by show lF.length ≤ 4; omega, fun x hx => ?_⟩ ?_ ((fb.ev.trans e5).trans (Ev.same s5)) (pn5.same s5)
     ·show x.ok _ ns.length
      rw [hn]; exact gl x hx
     ·refine Rep.tup upd_same (.cons (Rep.row ?_) (.cons (Rep.tup ?_ (Reps.ev (Ev.same s5) _ _ rb5)) .nil))
      ·exact ((Same.new ht2).trans (Same.new ht3)) _ _ upd_same
      ·exact (Same.new ht3) _ _ upd_same
 ·exact h.elim
theorem sc__law_caps : FnScope ["_law_plant_here", "_law_story_here", "_law_rows", "_law_hour", "_law_row_here", "_law_boiler", "_law_make", "_law_coal", "_law_words"] ["_law_plant_here", "_law_story_here"] (defScope s__law_caps) := ⟨rfl, rfl, rfl, by decide +kernel, rfl, by decide +kernel, by decide +kernel⟩
theorem ok__law_caps (F : Df K mg "_law_caps" s__law_caps ["_law_plant_here", "_law_story_here"]) (T : Tx mg)  : Fn P w K mg base 1 "_law_caps" ["_law_plant_here", "_law_story_here"] sp__law_caps := by
 refine F.fn sc__law_caps (fun vs H Q E h => ?_) (fun f cdv A outer s H vs Q E hr h => ?_)
 ·unfold sp__law_caps at h; split at h; rfl; exact h.elim
 refine ⟨_, (pss_cons (ps_set (i := 2) sc__law_caps.nd rfl (loc_of (by rfl)) (c_lst pa_nil)) (pss_cons (ps_for PassesOwn.never rfl (pi_range1 rfl T.b_range (pb1 (pe_callB (lenS K) rfl T.b_len PySem.boot_len (pb1 (pe_ix (ixT K) (cy 1) pe_int (fun _ _ => rfl)))))) (pgy 3 sc__law_caps.nd) (pss_cons (ps_set (i := 4) sc__law_caps.nd rfl (loc_of (by rfl)) (c_lst pa_nil)) (pss_cons (ps_for PassesOwn.never rfl (piET P w K rfl T.b_enumerate (pb1 (pe_ix (ixT K) (cy 0) pe_int (fun _ _ => rfl)))) (pgT K (n := 2) (pgs_cons (pgy 5 sc__law_caps.nd) (pgs_cons (pgT K (n := 2) (pgs_cons (pgy 6 sc__law_caps.nd) (pgs_cons (pgy 7 sc__law_caps.nd) pgs_nil))) pgs_nil))) (pss_cons (ps_setComp (i := 8) ["_law_one", "_law_word", "_law_first", "_law_last", "_law_boiler", "_law_hour"] [none, none, none, none, some 5, some 3] sc__law_caps.nd rfl (loc_of (by rfl)) rfl (piT K (pe_ix (ixT K) (cy 1) pe_int (fun _ _ => rfl))) (BlockScope.of rfl) (fun _ _ _ _ => (pgT K (n := 4) (pgs_cons (pgy 0 (nd_of (by rfl))) (pgs_cons (pgy 1 (nd_of (by rfl))) (pgs_cons (pgy 2 (nd_of (by rfl))) (pgs_cons (pgy 3 (nd_of (by rfl))) pgs_nil)))))) (fun _ _ _ _ => (pts_one (PW.pt (c_and (c_cmpT op_eq (cy 0) (cy 4) (nomark _)) (c_and (c_cmpT o_le (cy 2) (cy 5) (nomark _)) (pw_and1 (c_cmpT o_le (cy 5) (cy 3) (nomark _)))))))) (fun _ _ _ _ => (cy 1))) (pss_one (ps_expr (pe_bm PySem.F.plainAttrs_list PySem.F.slot_list_append PySem.F.type_list_append mt_append (cy 4) (pb1 (c_ifE (c_cmpT (inS K) pe_str (cy 8) (by with_unfolding_all rfl)) pe_int (pe_op o_fdiv (cy 6) (pe_op o_add pe_int (pe_callTy call_int1 rfl T.b_int L2.boot_int (pb1 (pe_cmpR (inS K) pe_str (cy 8) (by with_unfolding_all rfl))))))))))))) (pss_one (ps_expr (pe_bm PySem.F.plainAttrs_list PySem.F.slot_list_append PySem.F.type_list_append mt_append (cy 2) (pb1 (pe_callTy (tupOf K) rfl T.b_tuple boot_tuple' (pb1 (cy 4)))))))))) (pss_one (ps_ret (pe_callTy (tupOf K) rfl T.b_tuple boot_tuple' (pb1 (cy 2))))))), ?_⟩
 unfold sp__law_caps at h
 split at h
 ·rename_i v u
  obtain ⟨p, P, S, ok, so, r, ru, q⟩ := h
  obtain ⟨A, B, E, xf, rfl, hA, hB, hE, rf⟩ := Rep.story ru
  obtain ⟨PA, PB, PE, PM, xb, xe, rfl, pA, pB, rb, pE, re, pM⟩ := Rep.plant r
  have x8 := so.x8
  have f4 := so.f4
  have b4 := ok.b4
  have lb := rb.len
  rw [List.length_map] at lb
  have lf := rf.len
  rw [List.length_map] at lf
  intro R hR
  have s0 : Same H (upd H R (.lst [])) := Same.new hR
  refine ⟨A, _, 0, .ref B, rfl, rfl, SqT.of (s0 _ _ hA), rfl, B, _, rfl, .inr (SqT.of (s0 _ _ hB)), _, rfl, by omega, by rw [List.length_map]; omega, for_range (n := (S.ex.map V.int).length) (fun i σ H1 => (∃ x3 x4 x5 x6 x7 x8, σ = [some (.ref PA), some (.ref A), some (.ref R), x3, x4, x5, x6, x7, x8]) ∧ Same H H1 ∧ ∃ xs, H1 R = some (.lst xs) ∧ Reps p H1 (((caps P S).take i).map rowD) xs)
   ⟨⟨_, _, _, _, _, _, rfl⟩, s0, [], upd_same, .nil⟩ (fun i σ H1 hi hP => ?_) fun σ H1 hP => ?_⟩
  ·obtain ⟨⟨x3, x4, x5, x6, x7, x8', rfl⟩, s1, xs, hxs, rxs⟩ := hP
   rw [List.length_map] at hi
   have lx := rxs.len
   rw [List.length_map, List.length_take] at lx
   intro b hb
   have sb : Same H1 (upd H1 b (.lst [])) := Same.new hb
   refine ⟨PA, _, 0, .ref PB, rfl, rfl, SqT.of (sb _ _ (s1 _ _ pA)), rfl, PB, rfl, ⟨xb, SqT.of (sb _ _ (s1 _ _ pB))⟩, for_enum (xs := xb) (fun j σ H2 => (∃ y5 y6 y7 y8, σ = [some (.ref PA), some (.ref A), some (.ref R), some (.int (0 + i)), some (.ref b), y5, y6, y7, y8]) ∧ Same H1 H2 ∧ H2 b = some (.lst (((capsIn P.bs S.fs i).take j).map V.int)))
    ⟨⟨_, _, _, _, rfl⟩, sb, upd_same⟩ (fun j σ H2 h => SqT.of (h.2.1 _ _ (s1 _ _ pB))) (fun j x σ H2 T hx h hT => ?_) fun σ H2 h => ?_⟩
   ·obtain ⟨⟨y5, y6, y7, y8, rfl⟩, s2, hb2⟩ := h
    obtain ⟨f, hf, rd⟩ := Reps.mapGot rb hx
    have hj : j < xb.length := (List.getElem?_eq_some_iff.mp hx).1
    have s3 : Same H1 (upd H2 T (.tup [.int j, x])) := s2.trans (Same.new hT)
    have s03 : Same H (upd H2 T (.tup [.int j, x])) := s1.trans s3
    obtain ⟨l, zs, rfl, hl', rz⟩ := Rep.shape (Rep.ev (Ev.same s03) _ _ rd)
    obtain ⟨z1, z2, rfl, r1, r2⟩ := Reps.two rz
    unfold Rep at r1 r2
    subst r1 r2
    refine ⟨T, _, rfl, SqT.of upd_same, rfl, _, _, rfl, _, _, rfl, l, _, rfl, SqT.of hl', rfl, _, _, rfl, _, _, rfl, rfl, rfl, ?_⟩
    refine ⟨A, _, 1, .ref E, rfl, rfl, SqT.of (s03 _ _ hA), rfl, E, rfl, ⟨xf, SqT.of (s03 _ _ hE)⟩, walk_tup (xs := xf) (fun k ys H3 => Same (upd H2 T (.tup [.int j, .ref l])) H3 ∧ ys = (wordsOf (S.fs.take k) j i).map wV) (by omega) ⟨Same.refl _, rfl⟩ (fun k ys H' h => ?_) (fun k ys H' _ h => SqT.of (h.1 _ _ (s03 _ _ hE))) (fun k x ys H' hx h => ?_) fun ys H3 h => ?_⟩
    ·rw [h.2, List.length_map]
     unfold wordsOf
     rw [List.length_map]
     exact Nat.le_trans (List.length_filter_le _ _) (by rw [List.length_take]; omega)
    ·obtain ⟨g, hg, rg⟩ := Reps.mapGot rf hx
     obtain ⟨l2, zs2, rfl, hl2, rz2⟩ := Rep.shape (Rep.ev (Ev.same (s03.trans h.1)) _ _ rg)
     obtain ⟨w1, w2, w3, w4, rfl, r1, r2, r3, r4⟩ := Reps.four rz2
     unfold Rep at r1 r2 r3 r4
     subst r1 r2 r3 r4
     have nx := words_next (b := j) (h := i) hg
     have no : hitF j i g = false → Same (upd H2 T (.tup [.int j, .ref l])) H' ∧ ys = (wordsOf (S.fs.take (k + 1)) j i).map wV := fun e => ⟨h.1, by rw [nx, e, if_neg (by decide)]; exact h.2⟩
     refine ⟨l2, _, rfl, SqT.of hl2, rfl, _, _, rfl, _, _, rfl, _, _, rfl, _, _, rfl, rfl, ⟨rfl, rfl, trivial⟩, rfl, ⟨fun c1 => ⟨fun c2 => ⟨fun c3 => ?_, fun c3 => no ?_⟩, fun c2 => ⟨fun z => (by cases z), fun _ => no ?_⟩⟩, fun c1 => ⟨fun z => (by cases z), fun _ => no ?_⟩⟩⟩
     ·have e : hitF j i g = true := by
       rw [dec_int] at c1
       rw [Int.zero_add] at c2 c3
       unfold hitF; rw [c1, c2, c3]; rfl
      refine ⟨h.1, ?_⟩
      rw [nx, if_pos e, List.map_append, h.2]; rfl
     ·rw [Int.zero_add] at c3
      unfold hitF; rw [c3, Bool.and_false]
     ·rw [Int.zero_add] at c2
      unfold hitF; rw [c2, Bool.and_false, Bool.false_and]
     ·rw [dec_int] at c1
      unfold hitF; rw [c1, Bool.false_and, Bool.false_and]
    ·intro m hm
     have ew : ys = (wordsOf S.fs j i).map wV := by rw [h.2, List.take_of_length_le (by omega)]
     subst ew
     have s4 : Same H2 (upd H3 m (.lst ((wordsOf S.fs j i).map wV))) := (Same.new hT).trans (h.1.trans (Same.new hm))
     have hb4 := s4 _ _ hb2
     have hlen : (((capsIn P.bs S.fs i).take j).map V.int).length < sizeLine := small63 (by rw [List.length_map, List.length_take]; omega)
     refine ⟨.inl ⟨rfl, _, SqL.of hb4⟩, m, _, rfl, .inl (SqL.of upd_same), rfl, flat_words, ⟨fun c => ?_, fun c => ?_⟩⟩
     ·rw [if_neg (by decide), in_out] at c
      refine ⟨b, _, .int 0, rfl, rfl, hb4, hlen, ⟨_, _, _, _, rfl⟩, Same.own (s2.trans s4) hb, ?_⟩
      have e : capU (wordsOf S.fs j i) f.1 = 0 := by unfold capU; rw [if_pos c]
      rw [upd_same, take_next (capsIn_get hf), List.map_append, e]; rfl
     ·rw [if_neg (by decide), in_out] at c
      refine ⟨m, _, rfl, .inl (SqL.of upd_same), rfl, flat_words, .inr ⟨_, rfl, ?_⟩⟩
      have ek : (if (false = true) then !inV (V.str "scaled") ((wordsOf S.fs j i).map wV) else inV (V.str "scaled") ((wordsOf S.fs j i).map wV)) = (wordsOf S.fs j i).any (!·) := by rw [if_neg (by decide)]; exact in_scaled
      have e := capU_of (m := f.1) c
      refine ⟨one_if _, b, _, .int (capU (wordsOf S.fs j i) f.1), rfl, congrArg (fun z => [V.int z]) ((congrArg (fun (k : Bool) => f.1 / (1 + if k = true then 1 else 0)) ek).trans e), hb4, hlen, ⟨_, _, _, _, rfl⟩, Same.own (s2.trans s4) hb, ?_⟩
      rw [upd_same, take_next (capsIn_get hf), List.map_append]; rfl
   ·obtain ⟨⟨y5, y6, y7, y8, rfl⟩, s2, hb2⟩ := h
    rw [List.take_of_length_le (by rw [capsIn_len]; omega)] at hb2
    refine ⟨.inl ⟨rfl, _, SqL.of (s2 _ _ hxs)⟩, b, _, rfl, .inl ⟨SqL.of hb2, fun t ht => ?_⟩⟩
    have s3 : Same H1 (upd H2 t (.tup ((capsIn P.bs S.fs i).map V.int))) := s2.trans (Same.new ht)
    have hR3 := s3 _ _ hxs
    refine ⟨R, xs, .ref t, rfl, rfl, hR3, small63 (by omega), ⟨_, _, _, _, _, _, rfl⟩, Same.own (s1.trans s3) hR, _, upd_same, ?_⟩
    have tv := TEv.upd (zs := xs ++ [.ref t]) hR3
    rw [take_next (caps_get hi), List.map_append]
    refine Reps.snoc (Reps.tev ((Ev.same (p := p) s3).tev.trans tv) _ _ (noMuts_all fun d hd => ?_) rxs) (Rep.tev tv _ _ (noMut_row _) (Rep.row (p := p) upd_same))
    obtain ⟨rr, _, rfl⟩ := List.mem_map.mp hd
    exact noMut_row rr
  ·obtain ⟨⟨x3, x4, x5, x6, x7, x8', rfl⟩, s1, xs, hxs, rxs⟩ := hP
   refine ⟨R, xs, rfl, .inl ⟨SqL.of hxs, fun t ht => q _ _ (s1.trans (Same.new ht)) (Rep.tup upd_same ?_)⟩⟩
   rw [List.take_of_length_le (by rw [caps_len, List.length_map]; exact Nat.le_refl _)] at rxs
   exact Reps.ev (Ev.new ht) _ _ rxs
 ·exact h.elim
end
end MF

end

section
namespace MF
open PySem PySem.Spec PyProof.Rows L2
def rowB (d : PyData) (cs : List Int) : Bool := match d with | .tuple ds => decide (ds.length = cs.length) && (List.zipWith (fun e c => isWF e 0 c) ds cs).all id | _ => false
def fireB (cs : List (List Int)) (d : PyData) : Bool := match d with | .tuple ds => decide (ds.length = cs.length) && (List.zipWith rowB ds cs).all id | _ => false
theorem isTO_n {d : PyData} {n : Nat} (h : isTO d (n : Int) (n : Int) = true) : ∃ ds, d = .tuple ds ∧ ds.length = n := by
 cases d with
 | tuple ds =>
  unfold isTO at h
  obtain ⟨h1, h2⟩ := Bool.and_eq_true_iff.mp h
  have h1 := of_decide_eq_true h1
  have h2 := of_decide_eq_true h2
  exact ⟨ds, rfl, by omega⟩
 | _ => cases h
theorem rowB_no {d : PyData} {cs : List Int} (h : isTO d (cs.length : Int) (cs.length : Int) = false) : rowB d cs = false := by
 cases d with
 | tuple ds =>
  unfold rowB
  by_cases e : ds.length = cs.length
  ·rw [isTO_ok (by omega) (by omega)] at h; cases h
  ·simp [e]
 | _ => rfl
theorem fireB_no {d : PyData} {cs : List (List Int)} (h : isTO d (cs.length : Int) (cs.length : Int) = false) : fireB cs d = false := by
 cases d with
 | tuple ds =>
  unfold fireB
  by_cases e : ds.length = cs.length
  ·rw [isTO_ok (by omega) (by omega)] at h; cases h
  ·simp [e]
 | _ => rfl
theorem rowB_yes {ds : List PyData} {cs : List Int} (h : ds.length = cs.length) : rowB (.tuple ds) cs = (List.zipWith (fun e c => isWF e 0 c) ds cs).all id := by
 unfold rowB; simp [h]
theorem fireB_yes {ds : List PyData} {cs : List (List Int)} (h : ds.length = cs.length) : fireB cs (.tuple ds) = (List.zipWith rowB ds cs).all id := by
 unfold fireB; simp [h]
theorem zw_get {α β : Type} {f : α → β → Bool} {l : List α} {m : List β} {i : Nat} {a : α} {b : β} (h1 : l[i]? = some a) (h2 : m[i]? = some b) : (List.zipWith f l m)[i]? = some (f a b) := by rw [List.getElem?_zipWith, h1, h2]
theorem rowB_is {d : PyData} {cs : List Int} : rowB d cs = true ↔ ∃ r : List Int, d = rowD r ∧ r.length = cs.length ∧ ∀ (j : Nat) (x c : Int), r[j]? = some x → cs[j]? = some c → 0 ≤ x ∧ x ≤ c := by
 constructor
 ·intro h
  cases d with
  | tuple ds =>
   unfold rowB at h
   obtain ⟨h1, h2⟩ := Bool.and_eq_true_iff.mp h
   have h1 := of_decide_eq_true h1
   rw [List.all_eq_true] at h2
   have hi : ∀ j (hj : j < ds.length), ∃ x : Int, ds[j] = .int x ∧ ∀ c, cs[j]? = some c → 0 ≤ x ∧ x ≤ c := fun j hj => by
    have hc : cs[j]? = some cs[j] := List.getElem?_eq_getElem (by omega)
    have hz := zw_get (f := fun e c => isWF e 0 c) (List.getElem?_eq_getElem hj) hc
    have := h2 _ (List.mem_of_getElem? hz)
    cases hd : ds[j] with
    | int x =>
     rw [hd] at this
     have this : isWF (.int x) 0 cs[j] = true := this
     unfold isWF at this
     obtain ⟨a1, a2⟩ := Bool.and_eq_true_iff.mp this
     refine ⟨x, rfl, fun c e => ?_⟩
     rw [hc] at e
     cases e
     exact ⟨of_decide_eq_true a1, of_decide_eq_true a2⟩
    | _ => rw [hd] at this; cases this
   refine ⟨ds.map fun d => match d with | .int x => x | _ => 0, ?_, by rw [List.length_map]; exact h1, fun j x c hx hc => ?_⟩
   ·unfold rowD
    congr 1
    refine List.ext_getElem (by simp) fun j g1 g2 => ?_
    obtain ⟨x, e, _⟩ := hi j g1
    simp [e]
   ·rw [List.getElem?_map] at hx
    have hj : j < ds.length := by have := (List.getElem?_eq_some_iff.mp hc).1; omega
    obtain ⟨y, e, b⟩ := hi j hj
    rw [List.getElem?_eq_getElem hj, e] at hx
    cases hx
    exact b c hc
  | _ => cases h
 ·rintro ⟨r, rfl, hl, b⟩
  unfold rowD
  rw [rowB_yes (by rw [List.length_map]; exact hl), List.all_eq_true]
  intro z hz
  obtain ⟨j, hj, e⟩ := List.getElem_of_mem hz
  rw [List.length_zipWith, List.length_map] at hj
  have hx : r[j]? = some r[j] := List.getElem?_eq_getElem (by omega)
  have hc : cs[j]? = some cs[j] := List.getElem?_eq_getElem (by omega)
  have := b j _ _ hx hc
  have e2 := zw_get (f := fun e c => isWF e 0 c) (l := r.map .int) (a := .int r[j]) (by rw [List.getElem?_map, hx]; rfl) hc
  rw [List.getElem?_eq_getElem (by rw [List.length_zipWith, List.length_map]; omega)] at e2
  have e2 := Option.some.inj e2
  rw [e2] at e
  rw [← e]
  exact isWF_ok this.1 this.2
theorem fireB_is {P : PL} {S : SY} {d : PyData} : fireB (caps P S) d = true ↔ ∃ F, d = FD F ∧ FOk P S F := by
 constructor
 ·intro h
  cases d with
  | tuple ds =>
   unfold fireB at h
   obtain ⟨h1, h2⟩ := Bool.and_eq_true_iff.mp h
   have h1 := of_decide_eq_true h1
   rw [List.all_eq_true] at h2
   have hi : ∀ i (hi : i < ds.length), ∃ r : List Int, ds[i] = rowD r ∧ r.length = P.bs.length ∧ ∀ (j : Nat) (x c : Int), r[j]? = some x → (capsIn P.bs S.fs i)[j]? = some c → 0 ≤ x ∧ x ≤ c := fun i hi => by
    have hc := caps_get (P := P) (S := S) (i := i) (by rw [← caps_len (P := P) (S := S)]; omega)
    have hz := zw_get (f := rowB) (List.getElem?_eq_getElem hi) hc
    obtain ⟨r, e, l, b⟩ := rowB_is.mp (h2 _ (List.mem_of_getElem? hz))
    exact ⟨r, e, by rw [l, capsIn_len], b⟩
   have hF : ∃ F : List (List Int), ds = F.map rowD ∧ ∀ (i : Nat) r, F[i]? = some r → r.length = P.bs.length ∧ ∀ (j : Nat) (x c : Int), r[j]? = some x → (capsIn P.bs S.fs i)[j]? = some c → 0 ≤ x ∧ x ≤ c := by
    clear h h2
    have key : ∀ (n : Nat), n ≤ ds.length → ∃ F : List (List Int), ds.take n = F.map rowD ∧ ∀ (i : Nat) r, F[i]? = some r → r.length = P.bs.length ∧ ∀ (j : Nat) (x c : Int), r[j]? = some x → (capsIn P.bs S.fs i)[j]? = some c → 0 ≤ x ∧ x ≤ c := fun n => by
     induction n with
     | zero => exact fun _ => ⟨[], by simp, fun i r h => by cases h⟩
     | succ n ih =>
      intro hn
      obtain ⟨F, e, b⟩ := ih (by omega)
      obtain ⟨r, e2, b2⟩ := hi n (by omega)
      have lF : F.length = n := by have := congrArg List.length e; rw [List.length_take, List.length_map] at this; omega
      refine ⟨F ++ [r], by rw [take_next (List.getElem?_eq_getElem (by omega)), e, e2, List.map_append]; rfl, fun i s hs => ?_⟩
      by_cases c : i < F.length
      ·rw [List.getElem?_append_left c] at hs
       exact b i s hs
      ·have hl := (List.getElem?_eq_some_iff.mp hs).1
       rw [List.length_append, List.length_singleton] at hl
       obtain rfl : i = n := by omega
       rw [← lF, List.getElem?_concat_length] at hs
       cases hs
       exact b2
    obtain ⟨F, e, b⟩ := key ds.length (Nat.le_refl _)
    exact ⟨F, by rw [← e, List.take_length], b⟩
   obtain ⟨F, rfl, b⟩ := hF
   refine ⟨F, rfl, ?_, fun i r hr => (b i r hr).1, fun i r j x c hr => (b i r hr).2 j x c⟩
   rw [List.length_map, caps_len] at h1
   exact h1
  | _ => cases h
 ·rintro ⟨F, rfl, fo⟩
  unfold FD
  have hl : (F.map rowD).length = (caps P S).length := by rw [List.length_map, caps_len, fo.len]
  rw [fireB_yes hl, List.all_eq_true]
  intro z hz
  obtain ⟨i, hi, e⟩ := List.getElem_of_mem hz
  rw [List.length_zipWith, List.length_map] at hi
  have hr : F[i]? = some F[i] := List.getElem?_eq_getElem (by omega)
  have hc := caps_get (P := P) (S := S) (i := i) (by rw [← fo.len]; omega)
  have e2 := zw_get (f := rowB) (l := F.map rowD) (a := rowD F[i]) (by rw [List.getElem?_map, hr]; rfl) hc
  rw [List.getElem?_eq_getElem (by rw [List.length_zipWith, List.length_map]; omega)] at e2
  have e2 := Option.some.inj e2
  rw [e2] at e
  rw [← e]
  exact rowB_is.mpr ⟨_, rfl, by rw [fo.row i _ hr, capsIn_len], fun j x c h1 h2 => fo.bd i _ j x c hr h1 h2⟩
def sp_is_row : Sp := fun vs H Q _ => match vs with | [v, u] => ∃ p d cs, Rep p H d v ∧ Rep p H (rowD cs) u ∧ cs.length ≤ 1000 ∧ ∀ b H', b = rowB d cs → Same H H' → Q (.bl b) H' | _ => False
def sp_is_firing : Sp := fun vs H Q _ => match vs with | [v, u, w] => ∃ p P S d, PL.ok P ∧ SY.ok S P.bs.length ∧ Rep p H P.d v ∧ Rep p H S.d u ∧ Rep p H d w ∧ ∀ b H', b = fireB (caps P S) d → Same H H' → Q (.bl b) H' | _ => False
def sp_is_firing_within : Sp := fun vs H Q _ => match vs with | [c, w] => ∃ p P S d, PL.ok P ∧ SY.ok S P.bs.length ∧ Rep p H (capsD P S) c ∧ Rep p H d w ∧ ∀ b H', b = fireB (caps P S) d → Same H H' → Q (.bl b) H' | _ => False
def sp_need_firing : Sp := fun vs H Q _ => match vs with | [v, u, w] => ∃ p P S F, Tri p H P S F v u w ∧ ∀ H', Same H H' → Q .non H' | _ => False
theorem Rep.firing {p : Addr} {H : Hp} {F : List (List Int)} {v : V} (r : Rep p H (FD F) v) : ∃ A xs, v = .ref A ∧ H A = some (.tup xs) ∧ Reps p H (F.map rowD) xs := Rep.shape r
theorem Rep.ofRow {p : Addr} {H : Hp} {r : List Int} {v : V} (h : Rep p H (rowD r) v) : ∃ A, v = .ref A ∧ H A = some (.tup (r.map V.int)) := by
 obtain ⟨A, xs, rfl, hA, rs⟩ := Rep.shape h
 rw [Reps.ints rs] at hA
 exact ⟨A, rfl, hA⟩
section
variable {P : Program} {w : World} {K : PySem.W.Frag} {mg : Str → Option Value} {base : Heap}
theorem sc_is_row : FnScope ["thing", "caps"] ["thing", "caps"] (defScope s_is_row) := ⟨rfl, rfl, rfl, by decide +kernel, rfl, by decide +kernel, by decide +kernel⟩
theorem ok_is_row (F : Df K mg "is_row" s_is_row ["thing", "caps"]) (T : Tx mg) (D_is_tuple_of : Fn P w K mg base 1 "is_tuple_of" ["thing", "fewest", "most"] sp_is_tuple_of) (D_is_whole_from : Fn P w K mg base 2 "is_whole_from" ["thing", "least", "most"] sp_is_whole_from) : Fn P w K mg base 3 "is_row" ["thing", "caps"] sp_is_row := by
 refine F.fn sc_is_row (fun vs H Q E h => ?_) (fun f cdv A outer s H vs Q E hr h => ?_)
 ·unfold sp_is_row at h; split at h; rfl; exact h.elim
 refine ⟨_, (pss_one (ps_ret (c_andV (c_call D_is_tuple_of (hr.mono (by decide)) rfl (pb3 (cy 0) (pe_callB (lenS K) rfl T.b_len PySem.boot_len (pb1 (cy 1))) (pe_callB (lenS K) rfl T.b_len PySem.boot_len (pb1 (cy 1))))) (pe_one (pe_callB (call_all rfl) rfl T.b_all boot_all (pb1 (pe_comp ["part", "cap"] [none, none] rfl (piZTT P w K rfl T.b_zip (pb2 (cy 0) (cy 1))) (BlockScope.of rfl) (fun _ _ _ _ => (pgT K (n := 2) (pgs_cons (pgy 0 (nd_of (by rfl))) (pgs_cons (pgy 1 (nd_of (by rfl))) pgs_nil)))) (fun _ _ _ _ => pts_nil) (fun _ _ _ _ => (c_call D_is_whole_from (hr.mono (by decide)) rfl (pb3 (cy 0) pe_int (cy 1))))))))))), ?_⟩
 unfold sp_is_row at h
 split at h
 ·rename_i v u
  obtain ⟨p, d, cs, rv, ru, h1000, q⟩ := h
  obtain ⟨B, rfl, hB⟩ := Rep.ofRow ru
  refine ⟨B, _, rfl, .inr (SqT.of hB), B, _, rfl, .inr (SqT.of hB), p, d, rv, fun b hb => ?_⟩
  rw [List.length_map] at hb
  refine ⟨fun c => ?_, fun c => q _ H ?_ (Same.refl _)⟩
  ·rw [hb] at c
   obtain ⟨ds, rfl, hl⟩ := isTO_n c
   obtain ⟨A, xs, rfl, hA, rs⟩ := Rep.shape rv
   have lx := rs.len
   refine ⟨A, B, rfl, ⟨_, SqT.of hA⟩, ⟨_, SqT.of hB⟩, walk_zip (xs := xs) (ys := cs.map V.int) (fun i zs H' => Same H H' ∧ zs = ((List.zipWith (fun e c => isWF e 0 c) ds cs).take i).map V.bl) (by omega) (by rw [List.length_map]; omega) ⟨Same.refl _, rfl⟩
    (fun i zs H' h => by rw [h.2, List.length_map, List.length_take]; omega) (fun i zs H' h => ⟨SqT.of (h.1 _ _ hA), SqT.of (h.1 _ _ hB)⟩) (fun i x y zs H' T hx hy h hT => ?_) fun zs H' h => ?_⟩
   ·obtain ⟨e, he, re⟩ := rs.got hx
    rw [List.getElem?_map] at hy
    cases z2 : cs[i]? with
    | none => rw [z2] at hy; cases hy
    | some m =>
     rw [z2] at hy
     cases hy
     have nT := Same.new (o := .tup [x, .int m]) hT
     refine ⟨T, _, rfl, SqT.of upd_same, rfl, _, _, rfl, _, _, rfl, rfl, trivial, fun _ => ⟨p, e, Rep.ev (Ev.same (h.1.trans nT)) _ _ re, fun b1 e1 => ⟨h.1.trans nT, ?_⟩⟩, fun c => by cases c⟩
     rw [h.2, take_next (zw_get (f := fun e c => isWF e 0 c) he z2), List.map_append, e1]; rfl
   ·intro m hm
    refine ⟨m, List.zipWith (fun e c => isWF e 0 c) ds cs, rfl, by rw [upd_same, h.2, List.take_of_length_le (by rw [List.length_zipWith]; omega)], ?_⟩
    exact q _ _ (rowB_yes hl).symm (h.1.trans (Same.new hm))
  ·rw [hb] at c
   exact (rowB_no c).symm
 ·exact h.elim
theorem sc_is_firing_within : FnScope ["caps", "thing"] ["caps", "thing"] (defScope s_is_firing_within) := ⟨rfl, rfl, rfl, by decide +kernel, rfl, by decide +kernel, by decide +kernel⟩
theorem ok_is_firing_within (F : Df K mg "is_firing_within" s_is_firing_within ["caps", "thing"]) (T : Tx mg) (D_is_row : Fn P w K mg base 3 "is_row" ["thing", "caps"] sp_is_row) (D_is_tuple_of : Fn P w K mg base 1 "is_tuple_of" ["thing", "fewest", "most"] sp_is_tuple_of) : Fn P w K mg base 4 "is_firing_within" ["caps", "thing"] sp_is_firing_within := by
 refine F.fn sc_is_firing_within (fun vs H Q E h => ?_) (fun f cdv A outer s H vs Q E hr h => ?_)
 ·unfold sp_is_firing_within at h; split at h; rfl; exact h.elim
 refine ⟨_, (pss_one (ps_ret (c_andV (c_call D_is_tuple_of (hr.mono (by decide)) rfl (pb3 (cy 1) (pe_callB (lenS K) rfl T.b_len PySem.boot_len (pb1 (cy 0))) (pe_callB (lenS K) rfl T.b_len PySem.boot_len (pb1 (cy 0))))) (pe_one (pe_callB (call_all rfl) rfl T.b_all boot_all (pb1 (pe_comp ["part", "row"] [none, none] rfl (piZTT P w K rfl T.b_zip (pb2 (cy 1) (cy 0))) (BlockScope.of rfl) (fun _ _ _ _ => (pgT K (n := 2) (pgs_cons (pgy 0 (nd_of (by rfl))) (pgs_cons (pgy 1 (nd_of (by rfl))) pgs_nil)))) (fun _ _ _ _ => pts_nil) (fun _ _ _ _ => (c_call D_is_row (hr.mono (by decide)) rfl (pb2 (cy 0) (cy 1))))))))))), ?_⟩
 unfold sp_is_firing_within at h
 split at h
 ·rename_i c w
  obtain ⟨p, P, S, d, ok, so, rc, rw', q⟩ := h
  have x8 := so.x8
  have b4 := ok.b4
  obtain ⟨B, cx, rfl, hB, rB⟩ := Rep.firing (F := caps P S) rc
  have lB := rB.len
  rw [List.length_map] at lB
  have lc : (caps P S).length = S.ex.length := caps_len
  refine ⟨B, _, rfl, .inr (SqT.of hB), B, _, rfl, .inr (SqT.of hB), p, d, rw', fun b hb => ?_⟩
  rw [← lB] at hb
  refine ⟨fun c => ?_, fun c => q _ H ?_ (Same.refl _)⟩
  ·rw [hb] at c
   obtain ⟨ds, rfl, hl⟩ := isTO_n c
   obtain ⟨A, xs, rfl, hA, rs⟩ := Rep.shape rw'
   have lx := rs.len
   refine ⟨A, B, rfl, ⟨_, SqT.of hA⟩, ⟨_, SqT.of hB⟩, walk_zip (xs := xs) (ys := cx) (fun i zs H' => Same H H' ∧ zs = ((List.zipWith rowB ds (caps P S)).take i).map V.bl) (by omega) (by omega) ⟨Same.refl _, rfl⟩
    (fun i zs H' h => by rw [h.2, List.length_map, List.length_take]; omega) (fun i zs H' h => ⟨SqT.of (h.1 _ _ hA), SqT.of (h.1 _ _ hB)⟩) (fun i x y zs H' T hx hy h hT => ?_) fun zs H' h => ?_⟩
   ·obtain ⟨e, he, re⟩ := rs.got hx
    obtain ⟨m, hm, rm⟩ := Reps.mapGot rB hy
    have nT := Same.new (o := .tup [x, y]) hT
    have hi : i < S.ex.length := by have := (List.getElem?_eq_some_iff.mp hm).1; omega
    have lm : m.length ≤ 1000 := by
     have := caps_get (P := P) hi
     rw [hm] at this
     rw [Option.some.inj this, capsIn_len]; omega
    refine ⟨T, _, rfl, SqT.of upd_same, rfl, _, _, rfl, _, _, rfl, rfl, trivial, fun _ => ⟨p, e, m, Rep.ev (Ev.same (h.1.trans nT)) _ _ re, Rep.ev (Ev.same (h.1.trans nT)) _ _ rm, lm, fun b1 H2 e1 s2 => ⟨h.1.trans (nT.trans s2), ?_⟩⟩, fun c => by cases c⟩
    rw [h.2, take_next (zw_get (f := rowB) he hm), List.map_append, e1]; rfl
   ·intro m hm
    refine ⟨m, List.zipWith rowB ds (caps P S), rfl, by rw [upd_same, h.2, List.take_of_length_le (by rw [List.length_zipWith]; omega)], ?_⟩
    exact q _ _ (fireB_yes hl).symm (h.1.trans (Same.new hm))
  ·rw [hb] at c
   exact (fireB_no c).symm
 ·exact h.elim
theorem sc_is_firing : FnScope ["plant", "story", "thing"] ["plant", "story", "thing"] (defScope s_is_firing) := ⟨rfl, rfl, rfl, by decide +kernel, rfl, by decide +kernel, by decide +kernel⟩
theorem ok_is_firing (F : Df K mg "is_firing" s_is_firing ["plant", "story", "thing"]) (T : Tx mg) (D_caps_of : Fn P w K mg base 9 "caps_of" ["plant", "story"] sp_caps_of) (D_is_firing_within : Fn P w K mg base 4 "is_firing_within" ["caps", "thing"] sp_is_firing_within) : Fn P w K mg base 10 "is_firing" ["plant", "story", "thing"] sp_is_firing := by
 refine F.fn sc_is_firing (fun vs H Q E h => ?_) (fun f cdv A outer s H vs Q E hr h => ?_)
 ·unfold sp_is_firing at h; split at h; rfl; exact h.elim
 refine ⟨_, (pss_one (ps_ret (c_call D_is_firing_within (hr.mono (by decide)) rfl (pb2 (c_call D_caps_of (hr.mono (by decide)) rfl (pb2 (cy 0) (cy 1))) (cy 2))))), ?_⟩
 unfold sp_is_firing at h
 split at h
 ·rename_i v u w
  obtain ⟨p, P, S, d, ok, so, rv, ru, rw', q⟩ := h
  exact ⟨p, P, S, ok, so, rv, ru, fun v1 H1 s1 r1 => ⟨p, P, S, d, ok, so, r1, Rep.ev (Ev.same s1) _ _ rw', fun b H2 e s2 => q b H2 e (s1.trans s2)⟩⟩
 ·exact h.elim
theorem sc_need_firing : FnScope ["plant", "story", "firing"] ["plant", "story", "firing"] (defScope s_need_firing) := ⟨rfl, rfl, rfl, by decide +kernel, rfl, by decide +kernel, by decide +kernel⟩
theorem ok_need_firing (F : Df K mg "need_firing" s_need_firing ["plant", "story", "firing"]) (T : Tx mg) (D_is_firing : Fn P w K mg base 10 "is_firing" ["plant", "story", "thing"] sp_is_firing) : Fn P w K mg base 11 "need_firing" ["plant", "story", "firing"] sp_need_firing := by
 refine F.fn sc_need_firing (fun vs H Q E h => ?_) (fun f cdv A outer s H vs Q E hr h => ?_)
 ·unfold sp_need_firing at h; split at h; rfl; exact h.elim
 refine ⟨_, (pss_one (c_if (pt_not (c_val (c_call D_is_firing (hr.mono (by decide)) rfl (pb3 (cy 0) (cy 1) (cy 2))))) (pss_one ps_never) pss_nil)), ?_⟩
 unfold sp_need_firing at h
 split at h
 ·rename_i v u w
  obtain ⟨p, P, S, F, tr, q⟩ := h
  refine ⟨p, P, S, FD F, tr.ok, tr.so, tr.r, tr.ru, tr.rw, fun b H' e s => ?_⟩
  rw [fireB_is.mpr ⟨F, rfl, tr.fo⟩] at e
  subst e
  exact ⟨fun c => (by cases c), fun c => q H' s⟩
 ·exact h.elim
end
end MF

end

section
namespace MF
open PySem PySem.Spec PyProof.Rows L2
def RowIn (r c : List Int) : Prop := r.length = c.length ∧ ∀ (j : Nat) (x y : Int), r[j]? = some x → c[j]? = some y → 0 ≤ x ∧ x ≤ y
def sp__law_firing : Sp := fun vs H Q _ => match vs with | [.ref p, v] => Pen p H ∧ ∃ P S, PL.ok P ∧ SY.ok S P.bs.length ∧ Rep p H (capsD P S) v ∧ ∀ w H' F, FOk P S F → Rep p H' (FD F) w → Ev p H H' → Pen p H' → Q w H' | _ => False
theorem snoc_get {α : Type} {l : List α} {a x : α} {k : Nat} (h : (l ++ [a])[k]? = some x) : l[k]? = some x ∨ (k = l.length ∧ x = a) := by
 by_cases c : k < l.length
 ·rw [List.getElem?_append_left c] at h; exact .inl h
 ·rw [List.getElem?_append_right (by omega)] at h
  have : k - l.length = 0 := by
   have := (List.getElem?_eq_some_iff.mp h).1
   simp at this; omega
  rw [this] at h
  cases h
  exact .inr ⟨by omega, rfl⟩
section
variable {P : Program} {w : World} {K : PySem.W.Frag} {mg : Str → Option Value} {base : Heap}
theorem sc__law_firing : FnScope ["_law_pen_here", "_law_caps_here", "_law_way", "_law_rows", "_law_row_here"] ["_law_pen_here", "_law_caps_here"] (defScope s__law_firing) := ⟨rfl, rfl, rfl, by decide +kernel, rfl, by decide +kernel, by decide +kernel⟩
theorem ok__law_firing (F : Df K mg "_law_firing" s__law_firing ["_law_pen_here", "_law_caps_here"]) (T : Tx mg) (D__law_draw : Fn P w K mg base 1 "_law_draw" ["_law_pen_here", "_law_many"] sp__law_draw) : Fn P w K mg base 2 "_law_firing" ["_law_pen_here", "_law_caps_here"] sp__law_firing := by
 refine F.fn sc__law_firing (fun vs H Q E h => ?_) (fun f cdv A outer s H vs Q E hr h => ?_)
 ·unfold sp__law_firing at h; split at h; rfl; exact h.elim
 refine ⟨_, (pss_cons (ps_asg (c_tup (pb2 (c_call D__law_draw (hr.mono (by decide)) rfl (pb2 (cy 0) pe_int)) (c_lst pa_nil))) (pgT K (n := 2) (pgs_cons (pgy 2 sc__law_firing.nd) (pgs_cons (pgy 3 sc__law_firing.nd) pgs_nil)))) (pss_cons (ps_for PassesOwn.never rfl (piT K (cy 1)) (pgy 4 sc__law_firing.nd) (pss_one (ps_expr (pe_bm PySem.F.plainAttrs_list PySem.F.slot_list_append PySem.F.type_list_append mt_append (cy 3) (pb1 (pe_callTy (tupOf K) rfl T.b_tuple boot_tuple' (pb1 (pe_comp ["_law_cap", "_law_way", "_law_pen_here"] [none, some 2, some 0] rfl (piT K (cy 4)) (BlockScope.of rfl) (fun _ _ _ _ => (pgy 0 (nd_of (by rfl)))) (fun _ _ _ _ => pts_nil) (fun _ _ _ _ => (pe_ix (ixL K) (c_lst (pb4 (cy 0) pe_int (c_call D__law_draw (hr.mono (by decide)) rfl (pb2 (cy 2) (pe_op o_add (cy 0) pe_int))) (c_call D__law_draw (hr.mono (by decide)) rfl (pb2 (cy 2) (pe_op o_add (cy 0) pe_int))))) (cy 1) (fun _ _ => rfl))))))))))) (pss_one (ps_ret (pe_callTy (tupOf K) rfl T.b_tuple boot_tuple' (pb1 (cy 3))))))), ?_⟩
 unfold sp__law_firing at h
 split at h
 ·rename_i p v
  obtain ⟨pn, P, S, ok, so, r, q⟩ := h
  have x8 := so.x8
  have b4 := ok.b4
  refine ⟨pn, by decide, by decide, fun way H1 a1 c1 e1 pn1 R hR l0 hl0 => ⟨l0, _, rfl, SqT.of upd_same, rfl, _, _, rfl, _, _, rfl, rfl, ?_⟩⟩
  have nR : R ≠ p := pn1.ne hR
  have hHR : H R = none := by
   cases z : H R with
   | none => rfl
   | some o => exact ((e1 R o z).elim (fun ⟨x, _⟩ => absurd x nR) fun x => by rw [x] at hR; cases hR)
  have s2 : Same H1 (upd (upd H1 R (.lst [])) l0 (.tup [.int way, .ref R])) := (Same.new hR).trans (Same.new hl0)
  have hR2 := (Same.new (o := .tup [.int way, .ref R]) hl0) _ _ (upd_same (H := H1) (a := R) (o := .lst []))
  unfold capsD at r
  obtain ⟨A, xs, rfl, hA, rx⟩ := Rep.shape (Rep.ev (e1.trans (Ev.same s2)) _ _ r)
  have lx := rx.len
  rw [List.length_map, caps_len] at lx
  refine ⟨A, rfl, ⟨xs, SqT.of hA⟩, for_tup (xs := xs) (fun i σ H2 => (∃ x4, σ = [some (.ref p), some (.ref A), some (.int way), some (.ref R), x4]) ∧ Ev p (upd (upd H1 R (.lst [])) l0 (.tup [.int way, .ref R])) (upd H2 R (.lst [])) ∧ Ev p H H2 ∧ Pen p H2 ∧ ∃ ys F, H2 R = some (.lst ys) ∧ Reps p H2 (F.map rowD) ys ∧ F.length = i ∧ ∀ (k : Nat) (r c : List Int), F[k]? = some r → (caps P S)[k]? = some c → RowIn r c)
   ⟨⟨_, rfl⟩, ?_, e1.trans (Ev.same s2), pn1.same s2, [], [], hR2, .nil, rfl, (fun k r c h => by simp at h)⟩ (fun i σ H2 _ h => ?_) (fun i x σ H2 hx h => ?_) fun σ H2 h => ?_⟩
  ·intro b o hb
   by_cases z : b = R
   ·subst z; rw [hR2] at hb; cases hb; exact .inr upd_same
   ·exact .inr (by rw [upd_ne z]; exact hb)
  ·have ha := h.2.1.tup hA
   have : A ≠ R := by
    intro z
    subst z
    rw [hR2] at hA; cases hA
   rw [upd_ne this] at ha
   exact SqT.of ha
  ·obtain ⟨⟨x4, rfl⟩, ev0, ev, pn2, ys, F, hRy, rF, lF, hin⟩ := h
   obtain ⟨cs, hcs, rcs⟩ := Reps.mapGot rx hx
   have hcb := (caps_bd ok cs (List.mem_of_getElem? hcs)).1
   have hcl := (caps_bd ok cs (List.mem_of_getElem? hcs)).2
   obtain ⟨C, rfl, hC⟩ := Rep.ofRow rcs
   have hC2 : H2 C = some (.tup (cs.map V.int)) := by
    have ha := ev0.tup hC
    have : C ≠ R := by
     intro z
     subst z
     rw [hR2] at hC; cases hC
    rw [upd_ne this] at ha
    exact ha
   refine ⟨.inl ⟨rfl, _, SqL.of hRy⟩, C, rfl, ⟨_, SqT.of hC2⟩, walk_tup (xs := cs.map V.int) (fun j zs H3 => Ev p H2 H3 ∧ Pen p H3 ∧ ∃ ns : List Int, zs = ns.map V.int ∧ ns.length = j ∧ ∀ (k : Nat) (x y : Int), ns[k]? = some x → cs[k]? = some y → 0 ≤ x ∧ x ≤ y) (by rw [List.length_map]; omega) ⟨Ev.refl, pn2, [], rfl, rfl, (fun k x y h => by simp at h)⟩ (fun j zs H3 h => ?_) (fun j zs H3 _ h => SqT.of (h.1.tup hC2)) (fun j x zs H3 hx h => ?_) fun zs H3 h => ?_⟩
   ·obtain ⟨_, _, ns, rfl, hn, _⟩ := h
    rw [List.length_map]; omega
   ·obtain ⟨e3, pn3, ns, rfl, hn, hb⟩ := h
    rw [List.getElem?_map] at hx
    cases z : cs[j]? with
    | none => rw [z] at hx; cases hx
    | some c =>
     rw [z] at hx
     cases hx
     have hc9 := hcb c (List.mem_of_getElem? z)
     refine ⟨⟨rfl, rfl, trivial⟩, fun _ => ⟨pn3, by omega, by omega, fun g1 H4 a4 c4 e4 pn4 => ⟨pn4, by omega, by omega, fun g2 H5 a5 c5 e5 pn5 l hl => ?_⟩⟩, fun z => by cases z⟩
     obtain ⟨vv, hvv, hat⟩ := pick (ns := [c, 0, g1, g2]) a1 (by simpa using c1)
     have hv' : 0 ≤ vv ∧ vv ≤ c := by
      simp only [List.mem_cons, List.not_mem_nil, or_false] at hvv
      omega
     refine ⟨l, _, way, .int vv, rfl, rfl, SqL.of upd_same, hat, e3.trans (e4.trans (e5.trans (Ev.new hl))), pn5.new hl, ns ++ [vv], by rw [List.map_append]; rfl, by rw [List.length_append, hn]; rfl, fun k x y hx hy => ?_⟩
     rcases snoc_get hx with h | ⟨h1, h2⟩
     ·exact hb k x y h hy
     ·subst h2
      rw [h1, hn, z] at hy
      cases hy
      exact hv'
   ·obtain ⟨e3, pn3, ns, rfl, hn, hb⟩ := h
    rw [List.length_map] at hn
    intro m hm
    refine ⟨m, _, rfl, .inl ⟨SqL.of upd_same, fun t ht => ?_⟩⟩
    have n3 := (Same.new (o := .lst (ns.map V.int)) hm).trans (Same.new (o := .tup (ns.map V.int)) ht)
    have hR3 := n3 _ _ (e3.lst hRy nR)
    have lF2 := rF.len
    rw [List.length_map] at lF2
    have hi : i < xs.length := (List.getElem?_eq_some_iff.mp hx).1
    have tv := TEv.upd (zs := ys ++ [.ref t]) hR3
    refine ⟨R, ys, .ref t, rfl, rfl, hR3, small63 (by omega), ⟨_, rfl⟩, ?_, ((ev.trans e3).trans (Ev.same n3)).own hHR, ?_, ys ++ [.ref t], F ++ [ns], upd_same, ?_, by rw [List.length_append, lF]; rfl, fun k r c hr hc => ?_⟩
    ·intro b o hb'
     rcases ev0 b o hb' with z | z
     ·exact .inl z
     ·by_cases zb : b = R
      ·subst zb
       rw [upd_same] at z ⊢
       exact .inr z
      ·rw [upd_ne zb] at z
       rcases (e3.trans (Ev.same n3)) b o z with y | y
       ·exact .inl y
       ·exact .inr (by rw [upd_ne zb, upd_ne zb]; exact y)
    ·obtain ⟨l, f, e⟩ := pn3.same n3
     exact ⟨l, f, by rw [upd_ne (Ne.symm nR)]; exact e⟩
    ·rw [List.map_append]
     refine Reps.snoc (Reps.tev ((e3.trans (Ev.same n3)).tev.trans tv) _ _ (noMuts_all fun d hd => ?_) rF) (Rep.tev tv _ _ (noMut_row _) (Rep.row (p := p) upd_same))
     obtain ⟨rr, _, rfl⟩ := List.mem_map.mp hd
     exact noMut_row rr
    ·rcases snoc_get hr with h | ⟨h1, h2⟩
     ·exact hin k r c h hc
     ·subst h2
      rw [h1, lF, hcs] at hc
      cases hc
      exact ⟨hn, hb⟩
  ·obtain ⟨⟨x4, rfl⟩, ev0, ev, pn2, ys, F, hRy, rF, lF, hin⟩ := h
   refine ⟨R, ys, rfl, .inl ⟨SqL.of hRy, fun t ht => ?_⟩⟩
   refine q _ _ F ⟨by omega, fun i r hr => ?_, fun i r j x c hr hx hc => ?_⟩ (Rep.tup upd_same (Reps.ev (Ev.new ht) _ _ rF)) (ev.trans (Ev.new ht)) (pn2.new ht)
   ·have hi : i < S.ex.length := by
     have := (List.getElem?_eq_some_iff.mp hr).1
     omega
    have := (hin i r _ hr (caps_get hi)).1
    rw [this, capsIn_len]
   ·have hi : i < S.ex.length := by
     have := (List.getElem?_eq_some_iff.mp hr).1
     omega
    exact (hin i r _ hr (caps_get hi)).2 j x c hx hc
 ·exact h.elim
end
end MF

end

section
namespace MF
open PySem PySem.Spec PyProof.Rows L2
abbrev nT (n : Int) : Str := Str.ofString (toString n)
def rowT (r : List Int) : Str := joinF " " (r.map nT)
def fireT (F : List (List Int)) : Str := joinF "/" (F.map rowT)
def numsT (c : Int) : List Str := (List.range (c + 1).toNat).map fun (n : Nat) => nT (n : Int)
def numOk (c : Int) (w : Str) : Bool := inV (.str w) ((numsT c).map V.str)
def rowOk (cs : List Int) (ws : List Str) : Bool := decide (ws.length = cs.length) && (List.zipWith numOk cs ws).all id
def sp_is_number_text : Sp := fun vs H Q _ => match vs with | [.int c, .str w] => 0 ≤ c ∧ c ≤ 9 ∧ ∀ b H', b = numOk c w → Same H H' → Q (.bl b) H' | _ => False
def sp_is_row_text : Sp := fun vs H Q _ => match vs with | [.ref a, .str t] => ∃ cs : List Int, H a = some (.tup (cs.map V.int)) ∧ cs.length ≤ 4 ∧ (∀ c ∈ cs, 0 ≤ c ∧ c ≤ 9) ∧ t.length ≤ 200000 ∧ ∀ b H', b = rowOk cs (splitF t " ") → Same H H' → Q (.bl b) H' | _ => False
def sp_firing_text : Sp := fun vs H Q _ => match vs with | [v, u, w] => ∃ p P S F, Tri p H P S F v u w ∧ ∀ H', Same H H' → Q (.str (fireT F)) H' | _ => False
theorem log_small {n : Nat} (h : n ≤ 1000) : n.log2 < 1920 := Nat.lt_of_le_of_lt (Nat.log2_le_self n) (by omega)
theorem flat_strs (l : List Str) : (l.map V.str).all flatV = true := by
 rw [List.all_map]; exact List.all_eq_true.mpr fun _ _ => rfl
theorem fold_le (sep : Str) (B : Nat) : ∀ (l : List Str) (a : Nat), (∀ x ∈ l, x.length ≤ B) → l.foldl (fun n x => n + x.length + sep.length) a ≤ a + l.length * (B + sep.length)
 | [], a, _ => by simp
 | x :: l, a, h => by
  have h1 := h x (List.mem_cons_self ..)
  have h2 := fold_le sep B l (a + x.length + sep.length) fun y hy => h y (List.mem_cons_of_mem _ hy)
  rw [List.foldl_cons, List.length_cons, Nat.succ_mul]
  omega
theorem lenSum_le (B : Nat) : ∀ (l : List Str), (∀ x ∈ l, x.length ≤ B) → (l.map (·.length)).sum ≤ l.length * B
 | [], _ => by simp
 | x :: l, h => by
  have h1 := h x (List.mem_cons_self ..)
  have h2 := lenSum_le B l fun y hy => h y (List.mem_cons_of_mem _ hy)
  rw [List.map_cons, List.sum_cons, List.length_cons, Nat.succ_mul]
  omega
theorem join_len {sep : Str} {l : List Str} {B : Nat} (h : ∀ x ∈ l, x.length ≤ B) : (joinF sep l).length ≤ l.length * (B + sep.length) := by
 have g : (Builtin.Str.glued sep l).length ≤ l.length * (B + sep.length) := by
  rw [size_glued, Nat.mul_add]
  have := lenSum_le B l h
  have := Nat.mul_le_mul_right sep.length (Nat.sub_le l.length 1)
  omega
 match l, h, g with
 | [], _, g => exact g
 | [x], h, _ => exact Nat.le_trans (h x (List.mem_cons_self ..)) (by rw [List.length_singleton]; omega)
 | _ :: _ :: _, _, g => exact g
theorem join_fit {sep : Str} {l : List Str} {B : Nat} (h : ∀ x ∈ l, x.length ≤ B) (hz : l.length * (B + sep.length) ≤ 200000) : Builtin.Str.tooLong (l.toArray.foldl (· + ·.length + sep.length) 0) = false ∧ (joinF sep l).length ≤ sizeLine := by
 have z : (200000 : Nat) ≤ sizeLine := by decide
 have f := fold_le sep B l 0 h
 refine ⟨?_, Nat.le_trans (Nat.le_trans (join_len h) hz) z⟩
 unfold Builtin.Str.tooLong
 rw [List.foldl_toArray]
 exact decide_eq_false (by omega)
theorem nT_len {n : Int} (h0 : 0 ≤ n) (h9 : n ≤ 9) : (nT n).length ≤ 11 := by
 have := PyProof.Rows.len_str_of_int n
 unfold nT
 omega
theorem rowT_len {r : List Int} (h : ∀ n ∈ r, 0 ≤ n ∧ n ≤ 9) (hl : r.length ≤ 4) : (rowT r).length ≤ 48 := by
 have := join_len (sep := " ") (l := r.map nT) (B := 11) fun x hx => by
  obtain ⟨n, hn, rfl⟩ := List.mem_map.mp hx
  exact nT_len (h n hn).1 (h n hn).2
 rw [List.length_map] at this
 have e : (Str.ofString " ").length = 1 := by decide
 rw [e] at this
 unfold rowT
 omega
theorem small_text {n : Nat} (h : n ≤ 200000) : n + 2 ≤ sizeLine := Nat.le_trans (Nat.add_le_add_right h 2) (by decide)
section
variable {P : Program} {w : World} {K : PySem.W.Frag} {mg : Str → Option Value} {base : Heap}
theorem sc_is_number_text : FnScope ["most", "word"] ["most", "word"] (defScope s_is_number_text) := ⟨rfl, rfl, rfl, by decide +kernel, rfl, by decide +kernel, by decide +kernel⟩
theorem ok_is_number_text (F : Df K mg "is_number_text" s_is_number_text ["most", "word"]) (T : Tx mg)  : Fn P w K mg base 1 "is_number_text" ["most", "word"] sp_is_number_text := by
 refine F.fn sc_is_number_text (fun vs H Q E h => ?_) (fun f cdv A outer s H vs Q E hr h => ?_)
 ·unfold sp_is_number_text at h; split at h; rfl; exact h.elim
 refine ⟨_, (pss_one (ps_ret (pe_cmpR (inS K) (cy 1) (pe_comp ["number"] [none] rfl (pi_range1 rfl T.b_range (pb1 (pe_op o_add (cy 0) pe_int))) (BlockScope.of rfl) (fun _ _ _ _ => (pgy 0 (nd_of (by rfl)))) (fun _ _ _ _ => pts_nil) (fun _ _ _ _ => (pe_callTy call_str_int rfl T.b_str boot_str' (pb1 (cy 0))))) (by with_unfolding_all rfl)))), ?_⟩
 unfold sp_is_number_text at h
 split at h
 ·rename_i c w'
  obtain ⟨c0, c9, q⟩ := h
  refine ⟨c + 1, rfl, by omega, by omega, walk_range (n := (c + 1).toNat) (fun i ys H' => Same H H' ∧ ys = ((List.range i).map fun (n : Nat) => nT (n : Int)).map V.str) (by omega) ⟨Same.refl _, rfl⟩ (fun i ys H' h => by rw [h.2, List.length_map, List.length_map, List.length_range]; exact Nat.le_refl _) (fun i ys H' hi h => ?_) (fun ys H' h => ?_)⟩
  ·refine ⟨trivial, fun _ => ⟨_, rfl, log_small (by omega), h.1, ?_⟩, fun z => by cases z⟩
   rw [h.2, List.range_succ, List.map_append, List.map_append, Int.zero_add]; rfl
  ·intro m hm
   refine ⟨m, _, rfl, .inl (SqL.of upd_same), rfl, by rw [h.2]; exact flat_strs _, ?_⟩
   exact q _ _ (by rw [h.2]; rfl) (h.1.trans (Same.new hm))
 ·exact h.elim
theorem sc_is_row_text : FnScope ["caps", "row", "words"] ["caps", "row"] (defScope s_is_row_text) := ⟨rfl, rfl, rfl, by decide +kernel, rfl, by decide +kernel, by decide +kernel⟩
theorem ok_is_row_text (F : Df K mg "is_row_text" s_is_row_text ["caps", "row"]) (T : Tx mg) (D_is_number_text : Fn P w K mg base 1 "is_number_text" ["most", "word"] sp_is_number_text) : Fn P w K mg base 2 "is_row_text" ["caps", "row"] sp_is_row_text := by
 refine F.fn sc_is_row_text (fun vs H Q E h => ?_) (fun f cdv A outer s H vs Q E hr h => ?_)
 ·unfold sp_is_row_text at h; split at h; rfl; exact h.elim
 refine ⟨_, (pss_cons (ps_set (i := 2) sc_is_row_text.nd rfl (loc_of (by rfl)) (pe_bmK K PySem.F.plainAttrs_str PySem.F.slot_str_split PySem.F.type_str_split mt_split (cy 1) (pb1 pe_str))) (pss_one (ps_ret (c_andV (pe_cmpR op_eq (pe_callB (lenS K) rfl T.b_len PySem.boot_len (pb1 (cy 2))) (pe_callB (lenS K) rfl T.b_len PySem.boot_len (pb1 (cy 0))) (nomark _)) (pe_one (pe_callB (call_all rfl) rfl T.b_all boot_all (pb1 (pe_comp ["cap", "word"] [none, none] rfl (piZTL P w K rfl T.b_zip (pb2 (cy 0) (cy 2))) (BlockScope.of rfl) (fun _ _ _ _ => (pgT K (n := 2) (pgs_cons (pgy 0 (nd_of (by rfl))) (pgs_cons (pgy 1 (nd_of (by rfl))) pgs_nil)))) (fun _ _ _ _ => pts_nil) (fun _ _ _ _ => (c_call D_is_number_text (hr.mono (by decide)) rfl (pb2 (cy 0) (cy 1)))))))))))), ?_⟩
 unfold sp_is_row_text at h
 split at h
 ·rename_i a t
  obtain ⟨cs, ha, l4, c9, hz, q⟩ := h
  refine ⟨rfl, t, " ", rfl, rfl, by decide, small_text hz, fun l hl => ?_⟩
  have n1 := Same.new (o := .lst ((splitF t " ").map V.str)) hl
  have kl : upd H l (.lst ((splitF t " ").map V.str)) l = some (.lst ((splitF t " ").map V.str)) := upd_same
  have sl := splitF_len t " "
  generalize upd H l (.lst ((splitF t " ").map V.str)) = H1 at n1 kl ⊢
  refine ⟨l, _, rfl, .inl (SqL.of kl), a, _, rfl, .inr (SqT.of (n1 _ _ ha)), rfl, ?_⟩
  have lw : ((splitF t " ").map V.str).length = (splitF t " ").length := List.length_map _
  have lcs : (cs.map V.int).length = cs.length := List.length_map _
  refine ⟨fun c => ?_, fun c => ?_⟩
  ·have e0 := of_decide_eq_true c
   injection e0 with e0
   rw [lw, lcs] at e0
   have e1 : (splitF t " ").length = cs.length := by omega
   refine ⟨a, l, rfl, ⟨_, SqT.of (n1 _ _ ha)⟩, ⟨_, SqL.of kl⟩, walk_zip (xs := cs.map V.int) (ys := (splitF t " ").map V.str) (fun i zs H' => Same H1 H' ∧ zs = ((List.zipWith numOk cs (splitF t " ")).take i).map V.bl) (by omega) (by omega) ⟨Same.refl _, rfl⟩ (fun i zs H' h => by rw [h.2, List.length_map, List.length_take]; omega) (fun i zs H' h => ⟨SqT.of (h.1 _ _ (n1 _ _ ha)), SqL.of (h.1 _ _ kl)⟩) (fun i x y zs H' T' hx hy h hT => ?_) (fun zs H' h => ?_)⟩
   ·rw [List.getElem?_map] at hx hy
    obtain ⟨c0, hc0, rfl⟩ : ∃ c0, cs[i]? = some c0 ∧ V.int c0 = x := by
     cases z : cs[i]? with
     | none => rw [z] at hx; cases hx
     | some c0 => rw [z] at hx; cases hx; exact ⟨c0, rfl, rfl⟩
    obtain ⟨w0, hw0, rfl⟩ : ∃ w0, (splitF t " ")[i]? = some w0 ∧ V.str w0 = y := by
     cases z : (splitF t " ")[i]? with
     | none => rw [z] at hy; cases hy
     | some w0 => rw [z] at hy; cases hy; exact ⟨w0, rfl, rfl⟩
    have nT' := Same.new (o := .tup [V.int c0, V.str w0]) hT
    obtain ⟨b0, b9⟩ := c9 c0 (List.mem_of_getElem? hc0)
    refine ⟨T', _, rfl, SqT.of upd_same, rfl, _, _, rfl, _, _, rfl, rfl, trivial, fun _ => ⟨b0, b9, fun b H2 hb s2 => ⟨h.1.trans (nT'.trans s2), ?_⟩⟩, fun z => by cases z⟩
    have ez : (List.zipWith numOk cs (splitF t " "))[i]? = some (numOk c0 w0) := by rw [List.getElem?_zipWith, hc0, hw0]
    rw [h.2, take_next ez, List.map_append, hb]; rfl
   ·intro m hm
    refine ⟨m, List.zipWith numOk cs (splitF t " "), rfl, ?_, ?_⟩
    ·rw [upd_same, h.2, List.take_of_length_le (by rw [List.length_zipWith]; omega)]
    ·refine q _ _ ?_ (n1.trans (h.1.trans (Same.new hm)))
     unfold rowOk
     rw [decide_eq_true e1, Bool.true_and]
  ·have e0 := of_decide_eq_false c
   refine q _ _ ?_ n1
   unfold rowOk
   rw [decide_eq_false (fun z => e0 (by rw [lw, lcs, z])), Bool.false_and]
 ·exact h.elim
theorem sc_firing_text : FnScope ["plant", "story", "firing"] ["plant", "story", "firing"] (defScope s_firing_text) := ⟨rfl, rfl, rfl, by decide +kernel, rfl, by decide +kernel, by decide +kernel⟩
theorem ok_firing_text (F : Df K mg "firing_text" s_firing_text ["plant", "story", "firing"]) (T : Tx mg) (D_need_firing : Fn P w K mg base 11 "need_firing" ["plant", "story", "firing"] sp_need_firing) : Fn P w K mg base 12 "firing_text" ["plant", "story", "firing"] sp_firing_text := by
  refine F.fn sc_firing_text (fun vs H Q E h => ?_) (fun f cdv A outer s H vs Q E hr h => ?_)
  · unfold sp_firing_text at h; split at h; rfl; exact h.elim
  refine ⟨_, (pss_cons (ps_expr (c_call D_need_firing (hr.mono (by decide)) rfl (pb3 (cy 0) (cy 1) (cy 2)))) (pss_one (ps_ret (pe_bmK K PySem.F.plainAttrs_str PySem.F.slot_str_join PySem.F.type_str_join mt_join pe_str (pb1 (pe_comp ["row"] [none] rfl (piT K (cy 2)) (BlockScope.of rfl) (fun _ _ _ _ => (pgy 0 (nd_of (by rfl)))) (fun _ _ _ _ => pts_nil) (fun _ _ _ _ => (pe_bmK K PySem.F.plainAttrs_str PySem.F.slot_str_join PySem.F.type_str_join mt_join pe_str (pb1 (pe_comp ["made"] [none] rfl (piT K (cy 0)) (BlockScope.of rfl) (fun _ _ _ _ => (pgy 0 (nd_of (by rfl)))) (fun _ _ _ _ => pts_nil) (fun _ _ _ _ => (pe_callTy call_str_int rfl T.b_str boot_str' (pb1 (cy 0)))))))))))))), ?_⟩
  unfold sp_firing_text at h
  split at h
  · rename_i v u w'
    obtain ⟨p, P, S, F, tr, q⟩ := h
    refine ⟨p, P, S, F, tr, fun H1 s1 => ?_⟩
    obtain ⟨FA, fx, rfl, hFA, rfx⟩ := Rep.firing (Rep.ev (Ev.same s1) _ _ tr.rw)
    have x8 := tr.so.x8
    have b4 := tr.ok.b4
    have lf := rfx.len
    rw [List.length_map, tr.fo.len] at lf
    have rows : ∀ (i : Nat) r, F[i]? = some r → (∀ n ∈ r, 0 ≤ n ∧ n ≤ 9) ∧ r.length ≤ 4 := fun i r hr => by
      have l1 := tr.fo.row i r hr
      refine ⟨fun n hn => ?_, by omega⟩
      obtain ⟨j, hj⟩ := List.getElem?_of_mem hn
      have hi : i < S.ex.length := by have := (List.getElem?_eq_some_iff.mp hr).1; rw [tr.fo.len] at this; exact this
      have cb := caps_bd (S := S) tr.ok _ (List.mem_of_getElem? (caps_get hi))
      obtain ⟨c, hc⟩ : ∃ c, (capsIn P.bs S.fs i)[j]? = some c := ⟨_, List.getElem?_eq_getElem (by have := (List.getElem?_eq_some_iff.mp hj).1; omega)⟩
      have b := tr.fo.bd i r j n c hr hj hc
      have c9 := cb.1 c (List.mem_of_getElem? hc)
      omega
    refine ⟨rfl, FA, rfl, ⟨_, SqT.of hFA⟩, walk_tup (xs := fx) (fun j zs H' => Same H1 H' ∧ zs = ((F.take j).map rowT).map V.str) (by omega) ⟨Same.refl _, rfl⟩ (fun j zs H' h => by rw [h.2, List.length_map, List.length_map, List.length_take]; omega) (fun j zs H' _ h => SqT.of (h.1 _ _ hFA)) (fun j x zs H' hx h => ?_) (fun zs H' h => ?_)⟩
    · obtain ⟨r, hr, rr⟩ := Reps.mapGot rfx hx
      obtain ⟨RA, rfl, hRA⟩ := Rep.ofRow rr
      obtain ⟨r9, r4⟩ := rows j r hr
      refine ⟨trivial, fun _ => ⟨rfl, RA, rfl, ⟨_, SqT.of (h.1 _ _ hRA)⟩, walk_tup (xs := r.map V.int) (fun k ys H2 => Same H' H2 ∧ ys = ((r.take k).map nT).map V.str) (by rw [List.length_map]; omega) ⟨Same.refl _, rfl⟩ (fun k ys H2 h2 => by rw [h2.2, List.length_map, List.length_map, List.length_take]; omega) (fun k ys H2 _ h2 => SqT.of ((h.1.trans h2.1) _ _ hRA)) (fun k x ys H2 hx h2 => ?_) (fun ys H2 h2 => ?_)⟩, fun z => by cases z⟩
      · rw [List.getElem?_map] at hx
        obtain ⟨n, hn, rfl⟩ : ∃ n, r[k]? = some n ∧ V.int n = x := by
          cases z : r[k]? with
          | none => rw [z] at hx; cases hx
          | some n => rw [z] at hx; cases hx; exact ⟨n, rfl, rfl⟩
        obtain ⟨m0, m9⟩ := r9 n (List.mem_of_getElem? hn)
        refine ⟨trivial, fun _ => ⟨n, rfl, log_small (by omega), h2.1, ?_⟩, fun z => by cases z⟩
        rw [h2.2, take_next hn, List.map_append, List.map_append]; rfl
      · intro m hm
        have fit := join_fit (sep := " ") (l := r.map nT) (B := 11) (fun x hx => by
          obtain ⟨n, hn, rfl⟩ := List.mem_map.mp hx
          exact nT_len (r9 n hn).1 (r9 n hn).2) (by rw [List.length_map]; have e : (Str.ofString " ").length = 1 := by decide
                                                    rw [e]; omega)
        refine ⟨" ", m, r.map nT, rfl, rfl, ?_, fit.1, fit.2, h.1.trans (h2.1.trans (Same.new hm)), ?_⟩
        · rw [upd_same, h2.2, List.length_map, List.take_of_length_le (Nat.le_refl _)]
        · rw [h.2, take_next hr, List.map_append, List.map_append]; rfl
    · intro m hm
      have fit := join_fit (sep := "/") (l := F.map rowT) (B := 48) (fun x hx => by
        obtain ⟨r, hr, rfl⟩ := List.mem_map.mp hx
        obtain ⟨i, hi⟩ := List.getElem?_of_mem hr
        exact rowT_len (rows i r hi).1 (rows i r hi).2) (by rw [List.length_map, tr.fo.len]; have e : (Str.ofString "/").length = 1 := by decide
                                                            rw [e]; omega)
      refine ⟨"/", m, F.map rowT, rfl, rfl, ?_, fit.1, fit.2, q _ (s1.trans (h.1.trans (Same.new hm)))⟩
      rw [upd_same, h.2, List.take_of_length_le (by rw [tr.fo.len]; omega)]
  · exact h.elim
end
end MF

end

section
namespace MF
open PySem PySem.Spec PyProof.Rows L2
def clsBody : Stmt → List Stmt | .ClassDef _ _ _ b _ _ _ _ _ _ _ => b | _ => []
abbrev s_init : Stmt := (clsBody (top 20)).getD 0 (.Pass ⟨0, 0, 0, 0⟩)
structure Tc (K : PySem.W.Frag) (mg : Str → Option Value) (M : Addr) (ds : List Addr) : Prop where
 c_NoPlant : mg "NoPlant" = some (.ref (ds.getD 0 0))
 c_NoStory : mg "NoStory" = some (.ref (ds.getD 1 0))
 c_NoFiring : mg "NoFiring" = some (.ref (ds.getD 2 0))
 c_NoHour : mg "NoHour" = some (.ref (ds.getD 3 0))
 c_NoBoiler : mg "NoBoiler" = some (.ref (ds.getD 4 0))
 c_NoPrices : mg "NoPrices" = some (.ref (ds.getD 5 0))
 c_NoWay : mg "NoWay" = some (.ref (ds.getD 6 0))
 c_NoSet : mg "NoSet" = some (.ref (ds.getD 7 0))
 c_NoTanks : mg "NoTanks" = some (.ref (ds.getD 8 0))
 c_NoPump : mg "NoPump" = some (.ref (ds.getD 9 0))
 c_NoFeeding : mg "NoFeeding" = some (.ref (ds.getD 10 0))
 c_NoReadings : mg "NoReadings" = some (.ref (ds.getD 11 0))
 c_NoStart : mg "NoStart" = some (.ref (ds.getD 12 0))
 c_NoShifts : mg "NoShifts" = some (.ref (ds.getD 13 0))
 c_NoBook : mg "NoBook" = some (.ref (ds.getD 14 0))
 c_NoAmount : mg "NoAmount" = some (.ref (ds.getD 15 0))
 c_NoDeed : mg "NoDeed" = some (.ref (ds.getD 16 0))
 c_NoLine : mg "NoLine" = some (.ref (ds.getD 17 0))
 c_NoText : mg "NoText" = some (.ref (ds.getD 18 0))
 c_MainError : mg "MainError" = some (.ref M)
 mB : PySem.W.mroIn K M (.type "BaseException") = some true
 mT : PySem.W.typeIn K (.ref M) = some (.type "type")
 w_NoText : wordOk K M ds 18 = true
 hd : PySem.W.hasDictIn K (ds.getD 18 0) = true
 na : PySem.W.findIn K (.ref (ds.getD 18 0)) "at" = some none
 xb : XBase K M
 xc : XCls K (ds.getD 18 0) "at"
theorem c_neg1 {X : Cx} {j : Nat} {p q : Pos} : PE X (.UnaryOp .USub (.Constant (.int 1) j p) q) (tC (.int (-1))) := (pe_un un_neg pe_int).weak fun σ H Q z => ⟨1, rfl, z⟩
def numV (w : Str) : Int := (((List.range 10).find? fun (n : Nat) => nT (n : Int) == w).getD 0 : Nat)
def rowR (cs : List Int) (ws : List Str) : Option (List Int) := if rowOk cs ws = true then some (ws.map numV) else none
def rowAt (C : List (List Int)) (ps : List Str) (i : Nat) : Option (List Int) := if i < C.length then rowR (C.getD i []) (splitF (ps.getD i Str.empty) " ") else none
def readF (C : List (List Int)) (ps : List Str) : Sum Int (List (List Int)) := match (List.range ps.length).find? (fun i => (rowAt C ps i).isNone) with
 | some i => .inl (i : Nat)
 | none => if ps.length < C.length then .inl (-1) else .inr ((List.range ps.length).map fun i => (rowAt C ps i).getD [])
def readD (C : List (List Int)) (d : PyData) : Sum Int (List (List Int)) := match d with | .str t => readF C (splitF t "/") | _ => .inl (-1)
theorem find_first {p : Nat → Bool} : ∀ {n i : Nat}, i < n → (∀ j, j < i → p j = false) → p i = true → (List.range n).find? p = some i := fun {n i} h1 h2 h3 => by
 rw [List.find?_range_eq_some]
 exact ⟨h3, List.mem_range.mpr h1, fun j hj => by rw [h2 j hj]; rfl⟩
theorem find_none {p : Nat → Bool} {n : Nat} (h : ∀ j, j < n → p j = false) : (List.range n).find? p = none := by
 rw [List.find?_eq_none]
 intro x hx
 rw [h x (List.mem_range.mp hx)]; exact Bool.false_ne_true
theorem numOk_is {c : Int} {w : Str} (h : numOk c w = true) : ∃ n : Nat, (n : Int) ≤ c ∧ w = nT (n : Int) := by
 unfold numOk inV at h
 obtain ⟨y, hy, e⟩ := List.any_eq_true.mp h
 obtain ⟨z, hz, rfl⟩ := List.mem_map.mp hy
 obtain ⟨n, hn, rfl⟩ := List.mem_map.mp hz
 have hn' := List.mem_range.mp hn
 refine ⟨n, by omega, ?_⟩
 have : (nT (n : Int) == w) = true := e
 exact (eq_of_beq this).symm
theorem numOk_nT {c : Int} {n : Nat} (h : (n : Int) ≤ c) : numOk c (nT (n : Int)) = true := by
 unfold numOk inV
 refine List.any_eq_true.mpr ⟨.str (nT (n : Int)), List.mem_map.mpr ⟨_, List.mem_map.mpr ⟨n, List.mem_range.mpr (by omega), rfl⟩, rfl⟩, ?_⟩
 show (nT (n : Int) == nT (n : Int)) = true
 exact beq_self_eq_true _
theorem numV_nT : ∀ n : Nat, n < 10 → numV (nT (n : Int)) = (n : Int) := by decide +kernel
theorem rowOk_len {cs : List Int} {ws : List Str} (h : rowOk cs ws = true) : ws.length = cs.length := by
 unfold rowOk at h
 rw [Bool.and_eq_true] at h
 exact of_decide_eq_true h.1
theorem rowOk_word {cs : List Int} {ws : List Str} (h : rowOk cs ws = true) (h9 : ∀ c ∈ cs, 0 ≤ c ∧ c ≤ 9) {i : Nat} {w : Str} (hw : ws[i]? = some w) : ∃ n : Nat, n < 10 ∧ w = nT (n : Int) ∧ numV w = (n : Int) ∧ ∃ c, cs[i]? = some c ∧ (n : Int) ≤ c := by
 have hl := rowOk_len h
 unfold rowOk at h
 rw [Bool.and_eq_true] at h
 have hi := (List.getElem?_eq_some_iff.mp hw).1
 have hc : cs[i]? = some cs[i] := List.getElem?_eq_getElem (by omega)
 have hz : (List.zipWith numOk cs ws)[i]? = some (numOk cs[i] w) := by rw [List.getElem?_zipWith, hc, hw]
 have ok : numOk cs[i] w = true := List.all_eq_true.mp h.2 _ (List.mem_of_getElem? hz)
 obtain ⟨n, hn, rfl⟩ := numOk_is ok
 have := (h9 _ (List.mem_of_getElem? hc)).2
 exact ⟨n, by omega, rfl, numV_nT n (by omega), _, hc, hn⟩
theorem rowAt_is {C : List (List Int)} {ps : List Str} {i : Nat} {r : List Int} (h : rowAt C ps i = some r) : i < C.length ∧ rowOk (C.getD i []) (splitF (ps.getD i Str.empty) " ") = true ∧ r = (splitF (ps.getD i Str.empty) " ").map numV := by
 unfold rowAt rowR at h
 split at h
 ·rename_i c
  split at h
  ·rename_i q
   cases h
   exact ⟨c, q, rfl⟩
  ·cases h
 ·cases h
theorem split_part {x y w : Str} (h : w ∈ splitF x y) : w.length ≤ x.length := by
 unfold splitF at h
 split at h
 ·rw [List.mem_singleton.mp h]; exact Nat.le_refl _
 ·split at h
  ·rw [List.mem_singleton.mp h]; exact Nat.le_refl _
  ·unfold Builtin.Str.partsBetween at h
   obtain ⟨q, _, rfl⟩ := List.mem_map.mp h
   exact strSub_length_le ..
def spE_firing_read (CT : Addr) : Sp := fun vs H Q E => match vs with
 | [v, u, x] => ∃ p P S d, PL.ok P ∧ SY.ok S P.bs.length ∧ Rep p H P.d v ∧ Rep p H S.d u ∧ Rep p H d x ∧ (∀ t, d = .str t → t.length ≤ 200000) ∧
   (∀ n H' a, readD (caps P S) d = .inl n → Same H H' → H a = none → H' a = some (.xd [("at", .int n)]) → E (.ref CT) (some a) H') ∧
   (∀ F H' b, readD (caps P S) d = .inr F → Same H H' → Rep p H' (FD F) (.ref b) → Q (.ref b) H')
 | _ => False
structure WT (K : PySem.W.Frag) (M : Addr) (ds : List Addr) (C : Addr) (dx : Option Addr) (H : Hp) (ws : List V) : Prop where
 ex : ∃ a v, C = ds.getD 18 0 ∧ dx = some a ∧ wordOk K M ds 18 = true ∧ PySem.W.hasDictIn K (ds.getD 18 0) = true ∧ PySem.W.findIn K (.ref (ds.getD 18 0)) "at" = some none ∧ H a = some (.xd [("at", v)]) ∧ ws = [.str "text", v]
theorem WT.mro {K : PySem.W.Frag} {M : Addr} {ds : List Addr} {C : Addr} {dx : Option Addr} {H : Hp} {ws : List V} (h : WT K M ds C dx H ws) : PySem.W.mroIn K C (.ref M) = some true := by
 obtain ⟨a, v, rfl, _, q, _⟩ := h.ex
 exact (wordOk_all q).2.1
theorem WT.keep {K : PySem.W.Frag} {M : Addr} {ds : List Addr} {C : Addr} {dx : Option Addr} {H H' : Hp} {ws : List V} (h : WT K M ds C dx H ws) (k : ∀ b o, H b = some o → H' b = some o) : WT K M ds C dx H' ws := by
 obtain ⟨a, v, h1, h2, h3, h4, h5, h6, h7⟩ := h.ex
 exact ⟨a, v, h1, h2, h3, h4, h5, k _ _ h6, h7⟩
section
variable {P : Program} {w : World} {K : PySem.W.Frag} {mg : Str → Option Value} {base : Heap} {M : Addr} {ds : List Addr}
theorem sc_init : FnScope ["self", "at"] ["self", "at"] (defScope s_init) := ⟨rfl, rfl, rfl, by decide +kernel, rfl, by decide +kernel, by decide +kernel⟩
theorem ok_init {f : Addr} {fd : FuncData} (F : Fun K "__init__" "NoText.__init__" s_init f fd) (C : Tc K mg M ds) (hx : excInI K (ds.getD 18 0) f = true) : FnOk P w K mg base CX0 1 f fd ["self", "at"] (sp_init (ds.getD 18 0) "at") := by
 refine F.ok sc_init (fun vs H Q E h => ?_) (fun cdv A outer s H vs Q E hr h => ?_)
 ·unfold sp_init at h; split at h; rfl; exact h.elim
 refine ⟨_, pss_cons (ps_expr (pe_base C.xb rfl C.c_MainError (pa_cons (cv 0) (pa_cons (pe_fs (by decide) (cv 1)) pa_nil)))) (pss_one (ps_xset (cv 0) (cv 1) rfl rfl)), ?_⟩
 unfold sp_init at h
 split at h
 ·rename_i e v
  obtain ⟨⟨n, rfl, hn⟩, he, q⟩ := h
  refine ⟨n, rfl, hn, e, _, f, _, rfl, he, hx, ?_⟩
  exact ⟨e, _, rfl, he, C.xc, q⟩
 ·exact h.elim
theorem sc_firing_read : FnScope ["plant", "story", "text", "caps", "rows", "at", "row"] ["plant", "story", "text"] (defScope s_firing_read) := ⟨rfl, rfl, rfl, by decide +kernel, rfl, by decide +kernel, by decide +kernel⟩
theorem okE_firing_read (F : Df K mg "firing_read" s_firing_read ["plant", "story", "text"]) (T : Tx mg) (C : Tc K mg M ds) (XI : Xi P w K mg base 1 "NoText" (ds.getD 18 0) "at") (D_caps_of : Fn P w K mg base 9 "caps_of" ["plant", "story"] sp_caps_of) (D_is_row_text : Fn P w K mg base 2 "is_row_text" ["caps", "row"] sp_is_row_text) : FnE P w K mg base 10 "firing_read" ["plant", "story", "text"] (spE_firing_read (ds.getD 18 0)) := by
 refine F.fnE sc_firing_read (fun vs H Q E h => ?_) (fun f cdv A outer s H vs Q E hr h => ?_)
 ·unfold spE_firing_read at h; split at h; rfl; exact h.elim
 refine ⟨_, (pss_cons (ps_set (i := 3) sc_firing_read.nd rfl (loc_of (by rfl)) (c_call D_caps_of (hr.mono (by decide)) rfl (pb2 (cy 0) (cy 1)))) (pss_cons (c_if (pt_not (c_val (pe_callB call_isi rfl T.b_isinstance boot_isinstance (pb2 (cy 2) (pe_bltn (v := .ty "str") rfl T.b_str boot_str' rfl))))) (pss_one (ps_raiseI isDef_cx rfl XI (hr.mono (by decide)) rfl (pb1 c_neg1))) pss_nil) (pss_cons (ps_set (i := 4) sc_firing_read.nd rfl (loc_of (by rfl)) (pe_bmK K PySem.F.plainAttrs_str PySem.F.slot_str_split PySem.F.type_str_split mt_split (cy 2) (pb1 pe_str))) (pss_cons (ps_for PassesOwn.leaving rfl (piEL P w K rfl T.b_enumerate (pb1 (cy 4))) (pgT K (n := 2) (pgs_cons (pgy 5 sc_firing_read.nd) (pgs_cons (pgy 6 sc_firing_read.nd) pgs_nil))) (pss_one (c_if (PW.pt (c_or (c_cmpT o_ge (cy 5) (pe_callB (lenS K) rfl T.b_len PySem.boot_len (pb1 (cy 3))) (nomark _)) (pw_or1 (pt_not (c_val (c_call D_is_row_text (hr.mono (by decide)) rfl (pb2 (pe_ix (ixT K) (cy 3) (cy 5) (fun _ _ => rfl)) (cy 6)))))))) (pss_one (ps_raiseI isDef_cx rfl XI (hr.mono (by decide)) rfl (pb1 (cy 5)))) pss_nil))) (pss_cons (c_if (c_cmpT o_lt (pe_callB (lenS K) rfl T.b_len PySem.boot_len (pb1 (cy 4))) (pe_callB (lenS K) rfl T.b_len PySem.boot_len (pb1 (cy 3))) (nomark _)) (pss_one (ps_raiseI isDef_cx rfl XI (hr.mono (by decide)) rfl (pb1 c_neg1))) pss_nil) (pss_one (ps_ret (pe_callTy (tupOf K) rfl T.b_tuple boot_tuple' (pb1 (pe_comp ["row"] [none] rfl (piL K (cy 4)) (BlockScope.of rfl) (fun _ _ _ _ => (pgy 0 (nd_of (by rfl)))) (fun _ _ _ _ => pts_nil) (fun _ _ _ _ => (pe_callTy (tupOf K) rfl T.b_tuple boot_tuple' (pb1 (pe_comp ["word"] [none] rfl (piL K (pe_bmK K PySem.F.plainAttrs_str PySem.F.slot_str_split PySem.F.type_str_split mt_split (cy 0) (pb1 pe_str))) (BlockScope.of rfl) (fun _ _ _ _ => (pgy 0 (nd_of (by rfl)))) (fun _ _ _ _ => pts_nil) (fun _ _ _ _ => (pe_callTy call_intS rfl T.b_int L2.boot_int (pb1 (cy 0)))))))))))))))))), ?_⟩
 unfold spE_firing_read at h
 split at h
 ·rename_i v u x
  obtain ⟨p, P, S, d, ok, so, rv, ru, rd, ht, qE, qF⟩ := h
  have x8 := so.x8
  have b4 := ok.b4
  refine ⟨p, P, S, ok, so, rv, ru, fun vc H1 s1 rc => ?_⟩
  obtain ⟨CA, cx, rfl, hCA, rcx⟩ := Rep.firing rc
  have rd1 := Rep.ev (Ev.same s1) _ _ rd
  refine ⟨_, Rep.ty rd1, .inr (.inr (.inr (.inr rfl))), ⟨fun c => ?_, fun c => ?_⟩⟩
  ·refine ⟨-1, rfl, by decide, fun a ha => qE (-1) _ a ?_ (s1.trans (Same.new ha)) (s1.free ha) upd_same⟩
   cases d <;> first | rfl | cases c
  ·cases d <;> first | cases c | skip
   rename_i t
   have tl := ht t rfl
   unfold Rep at rd1
   subst rd1
   refine ⟨rfl, t, "/", rfl, rfl, by decide, small_text tl, fun l hl => ?_⟩
   obtain ⟨ps, eps⟩ : ∃ ps, ps = splitF t "/" := ⟨_, rfl⟩
   obtain ⟨C, eC⟩ : ∃ C, C = caps P S := ⟨_, rfl⟩
   have lps := splitF_len t "/"
   have z200 : (200000 : Nat) + 2 ≤ sizeLine := by decide
   have tlp : ∀ w ∈ ps, w.length ≤ 200000 := fun w hw => Nat.le_trans (split_part (eps ▸ hw)) tl
   have lC : C.length = S.ex.length := by rw [eC]; exact caps_len
   have C9 : ∀ r ∈ C, (∀ i ∈ r, 0 ≤ i ∧ i ≤ 9) ∧ r.length = P.bs.length := by rw [eC]; exact caps_bd ok
   have rD : readD (caps P S) (.str t) = readF C ps := by rw [eps, eC]; rfl
   rw [rD] at qE qF
   have n1 := Same.new (o := .lst ((splitF t "/").map V.str)) hl
   have kl : upd H1 l (.lst ((splitF t "/").map V.str)) l = some (.lst ((splitF t "/").map V.str)) := upd_same
   have s2 := s1.trans n1
   have hC2 := n1 _ _ hCA
   have rc2 := Reps.ev (Ev.same n1) _ _ rcx
   have lcx := rc2.len
   rw [List.length_map, ← eC] at lcx
   generalize upd H1 l (.lst ((splitF t "/").map V.str)) = H2 at n1 kl s2 hC2 rc2 ⊢
   rw [← eps] at kl lps
   refine ⟨l, rfl, ⟨_, SqL.of kl⟩, for_enum (xs := ps.map V.str) (fun i σ H' => (∃ x5 x6, σ = [some v, some u, some (.str t), some (.ref CA), some (.ref l), x5, x6]) ∧ Same H2 H' ∧ ∀ j, j < i → ∃ r, rowAt C ps j = some r) ⟨⟨_, _, rfl⟩, Same.refl _, fun j hj => absurd hj (Nat.not_lt_zero _)⟩ (fun i σ H' h => SqL.of (h.2.1 _ _ kl)) (fun i x σ H' T hx h hT => ?_) fun σ H5 h => ?_⟩
   ·obtain ⟨⟨x5, x6, rfl⟩, sh, hj⟩ := h
    rw [List.getElem?_map] at hx
    obtain ⟨w0, hw0, rfl⟩ := Option.map_eq_some_iff.mp hx
    have nT' := Same.new (o := .tup [V.int (i : Int), V.str w0]) hT
    have hil : i < ps.length := (List.getElem?_eq_some_iff.mp hw0).1
    have sT := sh.trans nT'
    have wat : ps.getD i Str.empty = w0 := by rw [List.getD_eq_getElem?_getD, hw0]; rfl
    have hile : i ≤ C.length := by
     by_cases z : i = 0
     ·omega
     ·obtain ⟨r, hr⟩ := hj (i - 1) (by omega)
      have := (rowAt_is hr).1
      omega
    have bad : rowAt C ps i = none → ∀ (H6 : Hp), Same H2 H6 → ∀ a, H6 a = none → E (Value.ref (ds.getD 18 0)) (some a) (upd H6 a (HO.xd [("at", V.int (i : Int))])) := fun hb H6 s6 a ha => by
     refine qE i _ a ?_ ((s2.trans s6).trans (Same.new ha)) ((s2.trans s6).free ha) upd_same
     unfold readF
     rw [find_first hil (fun j hj' => by obtain ⟨r, hr⟩ := hj j hj'; rw [hr]; rfl) (by rw [hb]; rfl)]
    refine ⟨T, _, rfl, SqT.of upd_same, rfl, _, _, rfl, _, _, rfl, rfl, ?_⟩
    refine ⟨CA, cx, rfl, .inr (SqT.of (sT _ _ hC2)), ⟨fun c => ⟨fun _ => ?_, fun z => (by cases z)⟩, fun c => ?_⟩⟩
    ·have c' := of_decide_eq_true c
     refine ⟨i, rfl, by omega, bad ?_ _ sT⟩
     unfold rowAt
     rw [if_neg (by omega)]
    ·have c' := of_decide_eq_false c
     have hic : i < C.length := by omega
     have hCi : C[i]? = some (C.getD i []) := by rw [List.getD_eq_getElem?_getD, List.getElem?_eq_getElem hic]; rfl
     obtain ⟨y, hy, ry⟩ := rc2.get (i := i) (d := rowD (C.getD i [])) (by rw [List.getElem?_map, ← eC, hCi]; rfl)
     obtain ⟨RA, rfl, hRA⟩ := Rep.ofRow ry
     obtain ⟨r9, rl⟩ := C9 _ (List.mem_of_getElem? hCi)
     refine ⟨CA, cx, _, _, rfl, rfl, SqT.of (sT _ _ hC2), atI_nat hy, C.getD i [], sT _ _ hRA, by omega, r9, tlp w0 (List.mem_of_getElem? hw0), fun b H6 hb s6 => ⟨fun cc => ?_, fun cc => ?_⟩⟩
     ·refine ⟨i, rfl, by omega, bad ?_ _ (sT.trans s6)⟩
      unfold rowAt rowR
      rw [if_pos hic, wat, if_neg (by rw [← hb]; intro z; rw [z] at cc; cases cc)]
     ·refine ⟨⟨_, _, rfl⟩, sT.trans s6, fun j hj' => ?_⟩
      rcases Nat.lt_succ_iff_lt_or_eq.mp hj' with z | rfl
      ·exact hj j z
      ·refine ⟨(splitF w0 " ").map numV, ?_⟩
       unfold rowAt rowR
       rw [if_pos hic, wat, if_pos (by rw [← hb]; cases b <;> first | rfl | cases cc)]
   ·obtain ⟨⟨x5, x6, rfl⟩, sh, hj⟩ := h
    rw [List.length_map] at hj
    have all : (List.range ps.length).find? (fun i => (rowAt C ps i).isNone) = none := find_none fun j hj' => by obtain ⟨r, hr⟩ := hj j hj'; rw [hr]; rfl
    refine ⟨l, _, rfl, .inl (SqL.of (sh _ _ kl)), CA, cx, rfl, .inr (SqT.of (sh _ _ hC2)), ⟨fun c => ?_, fun c => ?_⟩⟩
    ·have c' := of_decide_eq_true c
     rw [List.length_map] at c'
     refine ⟨-1, rfl, by decide, fun a ha => qE (-1) _ a ?_ ((s2.trans sh).trans (Same.new ha)) ((s2.trans sh).free ha) upd_same⟩
     unfold readF
     rw [all]
     exact if_pos (by omega)
    ·have c' := of_decide_eq_false c
     rw [List.length_map] at c'
     have rF : readF C ps = .inr ((List.range ps.length).map fun i => (rowAt C ps i).getD []) := by
      unfold readF
      rw [all]
      exact if_neg (by omega)
     have lsz : ps.length ≤ 8 := by
      by_cases z : ps.length = 0
      ·omega
      ·obtain ⟨r, hr⟩ := hj (ps.length - 1) (by omega)
       have := (rowAt_is hr).1
       omega
     refine ⟨l, rfl, ⟨_, SqL.of (sh _ _ kl)⟩, walk_lst (xs := ps.map V.str) (fun i zs H' => Same H5 H' ∧ Reps p H' ((List.range i).map fun j => rowD ((rowAt C ps j).getD [])) zs) (by rw [List.length_map]; omega) ⟨Same.refl _, .nil⟩ (fun i zs H' h => by have := h.2.len; rw [List.length_map, List.length_range] at this; omega) (fun i zs H' _ h => SqL.of ((sh.trans h.1) _ _ kl)) (fun i x zs H' hx h => ?_) fun zs H6 h => ?_⟩
     ·rw [List.getElem?_map] at hx
      obtain ⟨w0, hw0, rfl⟩ := Option.map_eq_some_iff.mp hx
      obtain ⟨h1, h2⟩ := h
      have hil : i < ps.length := (List.getElem?_eq_some_iff.mp hw0).1
      have wat : ps.getD i Str.empty = w0 := by rw [List.getD_eq_getElem?_getD, hw0]; rfl
      obtain ⟨r, hr⟩ := hj i hil
      obtain ⟨hic, hok, er⟩ := rowAt_is hr
      rw [wat] at hok er
      have hCi : C[i]? = some (C.getD i []) := by rw [List.getD_eq_getElem?_getD, List.getElem?_eq_getElem hic]; rfl
      obtain ⟨r9, rl⟩ := C9 _ (List.mem_of_getElem? hCi)
      have lw := rowOk_len hok
      refine ⟨trivial, fun _ => ⟨rfl, w0, " ", rfl, rfl, by decide, small_text (tlp w0 (List.mem_of_getElem? hw0)), fun l2 hl2 => ?_⟩, fun z => by cases z⟩
      have n3 := Same.new (o := .lst ((splitF w0 " ").map V.str)) hl2
      have k3 : upd H' l2 (.lst ((splitF w0 " ").map V.str)) l2 = some (.lst ((splitF w0 " ").map V.str)) := upd_same
      generalize upd H' l2 (.lst ((splitF w0 " ").map V.str)) = H3 at n3 k3 ⊢
      generalize splitF w0 " " = ws at hok er lw k3
      refine ⟨l2, rfl, ⟨_, SqL.of k3⟩, walk_lst (xs := ws.map V.str) (fun k ys H4 => Same H3 H4 ∧ ys = ((ws.take k).map numV).map V.int) (by rw [List.length_map]; omega) ⟨Same.refl _, rfl⟩ (fun k ys H4 h => by rw [h.2, List.length_map, List.length_map, List.length_take]; omega) (fun k ys H4 _ h => SqL.of (h.1 _ _ k3)) (fun k x ys H4 hx h => ?_) fun ys H4 h => ?_⟩
      ·rw [List.getElem?_map] at hx
       obtain ⟨w1, hw1, rfl⟩ := Option.map_eq_some_iff.mp hx
       obtain ⟨n, hn, rfl, en, _⟩ := rowOk_word hok r9 hw1
       refine ⟨trivial, fun _ => ⟨n, rfl, by omega, by omega, h.1, ?_⟩, fun z => by cases z⟩
       rw [h.2, take_next hw1, List.map_append, List.map_append, List.map_singleton, List.map_singleton, en]
      ·intro m hm
       refine ⟨m, ys, rfl, .inl ⟨SqL.of upd_same, fun l4 hl4 => ?_⟩⟩
       have s6 := n3.trans (h.1.trans ((Same.new (o := .lst ys) hm).trans (Same.new (o := .tup ys) hl4)))
       refine ⟨h1.trans s6, ?_⟩
       rw [List.range_succ, List.map_append, List.map_singleton]
       refine Reps.append (Reps.ev (Ev.same s6) _ _ h2) (.cons (Rep.tup upd_same ?_) .nil)
       rw [h.2, hr, er, List.take_of_length_le (by rw [List.length_map]; omega)]
       exact Reps.ofInts
     ·intro m hm
      refine ⟨m, zs, rfl, .inl ⟨SqL.of upd_same, fun l4 hl4 => ?_⟩⟩
      have s6 := (Same.new (o := .lst zs) hm).trans (Same.new (o := .tup zs) hl4)
      have h2 := h.2
      rw [List.length_map] at h2
      refine qF _ _ l4 rF ((s2.trans sh).trans (h.1.trans s6)) (Rep.tup upd_same ?_)
      rw [List.map_map]
      exact Reps.ev (Ev.same s6) _ _ h2
 ·exact h.elim
theorem sc__law_kind : FnScope ["_law_e", "_law_kinds", "_law_words", "_law_word"] ["_law_e"] (defScope s__law_kind) := ⟨rfl, rfl, rfl, by decide +kernel, rfl, by decide +kernel, by decide +kernel⟩
theorem ok__law_kind (F : Df K mg "_law_kind" s__law_kind ["_law_e"]) (T : Tx mg) (C : Tc K mg M ds) : FnQ P w K mg base 1 "_law_kind" ["_law_e"] (sp_whichT (WT K M ds)) := by
 refine F.fnQ sc__law_kind (fun vs H Q E h => ?_) (fun f cdv A outer s H vs Q hr h => ?_)
 ·unfold sp_whichT at h; split at h; rfl; exact h.elim
 refine ⟨_, (@pss_cons _ _ _ _ _ (@ps_set _ _ (1) _ _ _ _ sc__law_kind.nd rfl (loc_of (by rfl)) (@c_lst _ _ _ _ (@pa4 _ _ _ _ _ _ _ _ _ (@pe_callB _ _ _ _ _ _ _ _ _ (call_isiD K) rfl T.b_isinstance boot_isinstance (@pa2 _ _ _ _ _ (@cx _ 0 _ _ (by rfl)) (@pe_glob _ _ (.ref (ds.getD 0 0)) _ _ rfl C.c_NoPlant rfl (by decide)) (by rfl)) (by decide) (by decide) (by rfl) (by rfl)) (@pe_callB _ _ _ _ _ _ _ _ _ (call_isiD K) rfl T.b_isinstance boot_isinstance (@pa2 _ _ _ _ _ (@cx _ 0 _ _ (by rfl)) (@pe_glob _ _ (.ref (ds.getD 1 0)) _ _ rfl C.c_NoStory rfl (by decide)) (by rfl)) (by decide) (by decide) (by rfl) (by rfl)) (@pe_callB _ _ _ _ _ _ _ _ _ (call_isiD K) rfl T.b_isinstance boot_isinstance (@pa2 _ _ _ _ _ (@cx _ 0 _ _ (by rfl)) (@pe_glob _ _ (.ref (ds.getD 2 0)) _ _ rfl C.c_NoFiring rfl (by decide)) (by rfl)) (by decide) (by decide) (by rfl) (by rfl)) (@pe_callB _ _ _ _ _ _ _ _ _ (call_isiD K) rfl T.b_isinstance boot_isinstance (@pa2 _ _ _ _ _ (@cx _ 0 _ _ (by rfl)) (@pe_glob _ _ (.ref (ds.getD 3 0)) _ _ rfl C.c_NoHour rfl (by decide)) (by rfl)) (by decide) (by decide) (by rfl) (by rfl)) (by rfl))) (by rfl) (fl_of (by rfl))) (@pss_cons _ _ _ _ _ (@ps_set _ _ (1) _ _ _ _ sc__law_kind.nd rfl (loc_of (by rfl)) (@pe_op _ _ _ _ _ _ _ _ (@op_cat _) (@cx _ 1 _ _ (by rfl)) (@c_lst _ _ _ _ (@pa4 _ _ _ _ _ _ _ _ _ (@pe_callB _ _ _ _ _ _ _ _ _ (call_isiD K) rfl T.b_isinstance boot_isinstance (@pa2 _ _ _ _ _ (@cx _ 0 _ _ (by rfl)) (@pe_glob _ _ (.ref (ds.getD 4 0)) _ _ rfl C.c_NoBoiler rfl (by decide)) (by rfl)) (by decide) (by decide) (by rfl) (by rfl)) (@pe_callB _ _ _ _ _ _ _ _ _ (call_isiD K) rfl T.b_isinstance boot_isinstance (@pa2 _ _ _ _ _ (@cx _ 0 _ _ (by rfl)) (@pe_glob _ _ (.ref (ds.getD 5 0)) _ _ rfl C.c_NoPrices rfl (by decide)) (by rfl)) (by decide) (by decide) (by rfl) (by rfl)) (@pe_callB _ _ _ _ _ _ _ _ _ (call_isiD K) rfl T.b_isinstance boot_isinstance (@pa2 _ _ _ _ _ (@cx _ 0 _ _ (by rfl)) (@pe_glob _ _ (.ref (ds.getD 6 0)) _ _ rfl C.c_NoWay rfl (by decide)) (by rfl)) (by decide) (by decide) (by rfl) (by rfl)) (@pe_callB _ _ _ _ _ _ _ _ _ (call_isiD K) rfl T.b_isinstance boot_isinstance (@pa2 _ _ _ _ _ (@cx _ 0 _ _ (by rfl)) (@pe_glob _ _ (.ref (ds.getD 7 0)) _ _ rfl C.c_NoSet rfl (by decide)) (by rfl)) (by decide) (by decide) (by rfl) (by rfl)) (by rfl)))) (by rfl) (fl_of (by rfl))) (@pss_cons _ _ _ _ _ (@ps_set _ _ (1) _ _ _ _ sc__law_kind.nd rfl (loc_of (by rfl)) (@pe_op _ _ _ _ _ _ _ _ (@op_cat _) (@cx _ 1 _ _ (by rfl)) (@c_lst _ _ _ _ (@pa3 _ _ _ _ _ _ _ (@pe_callB _ _ _ _ _ _ _ _ _ (call_isiD K) rfl T.b_isinstance boot_isinstance (@pa2 _ _ _ _ _ (@cx _ 0 _ _ (by rfl)) (@pe_glob _ _ (.ref (ds.getD 8 0)) _ _ rfl C.c_NoTanks rfl (by decide)) (by rfl)) (by decide) (by decide) (by rfl) (by rfl)) (@pe_callB _ _ _ _ _ _ _ _ _ (call_isiD K) rfl T.b_isinstance boot_isinstance (@pa2 _ _ _ _ _ (@cx _ 0 _ _ (by rfl)) (@pe_glob _ _ (.ref (ds.getD 9 0)) _ _ rfl C.c_NoPump rfl (by decide)) (by rfl)) (by decide) (by decide) (by rfl) (by rfl)) (@pe_callB _ _ _ _ _ _ _ _ _ (call_isiD K) rfl T.b_isinstance boot_isinstance (@pa2 _ _ _ _ _ (@cx _ 0 _ _ (by rfl)) (@pe_glob _ _ (.ref (ds.getD 10 0)) _ _ rfl C.c_NoFeeding rfl (by decide)) (by rfl)) (by decide) (by decide) (by rfl) (by rfl)) (by rfl)))) (by rfl) (fl_of (by rfl))) (@pss_cons _ _ _ _ _ (@ps_set _ _ (1) _ _ _ _ sc__law_kind.nd rfl (loc_of (by rfl)) (@pe_op _ _ _ _ _ _ _ _ (@op_cat _) (@cx _ 1 _ _ (by rfl)) (@c_lst _ _ _ _ (@pa3 _ _ _ _ _ _ _ (@pe_callB _ _ _ _ _ _ _ _ _ (call_isiD K) rfl T.b_isinstance boot_isinstance (@pa2 _ _ _ _ _ (@cx _ 0 _ _ (by rfl)) (@pe_glob _ _ (.ref (ds.getD 11 0)) _ _ rfl C.c_NoReadings rfl (by decide)) (by rfl)) (by decide) (by decide) (by rfl) (by rfl)) (@pe_callB _ _ _ _ _ _ _ _ _ (call_isiD K) rfl T.b_isinstance boot_isinstance (@pa2 _ _ _ _ _ (@cx _ 0 _ _ (by rfl)) (@pe_glob _ _ (.ref (ds.getD 12 0)) _ _ rfl C.c_NoStart rfl (by decide)) (by rfl)) (by decide) (by decide) (by rfl) (by rfl)) (@pe_callB _ _ _ _ _ _ _ _ _ (call_isiD K) rfl T.b_isinstance boot_isinstance (@pa2 _ _ _ _ _ (@cx _ 0 _ _ (by rfl)) (@pe_glob _ _ (.ref (ds.getD 13 0)) _ _ rfl C.c_NoShifts rfl (by decide)) (by rfl)) (by decide) (by decide) (by rfl) (by rfl)) (by rfl)))) (by rfl) (fl_of (by rfl))) (@pss_cons _ _ _ _ _ (@ps_set _ _ (1) _ _ _ _ sc__law_kind.nd rfl (loc_of (by rfl)) (@pe_op _ _ _ _ _ _ _ _ (@op_cat _) (@cx _ 1 _ _ (by rfl)) (@c_lst _ _ _ _ (@pa4 _ _ _ _ _ _ _ _ _ (@pe_callB _ _ _ _ _ _ _ _ _ (call_isiD K) rfl T.b_isinstance boot_isinstance (@pa2 _ _ _ _ _ (@cx _ 0 _ _ (by rfl)) (@pe_glob _ _ (.ref (ds.getD 14 0)) _ _ rfl C.c_NoBook rfl (by decide)) (by rfl)) (by decide) (by decide) (by rfl) (by rfl)) (@pe_callB _ _ _ _ _ _ _ _ _ (call_isiD K) rfl T.b_isinstance boot_isinstance (@pa2 _ _ _ _ _ (@cx _ 0 _ _ (by rfl)) (@pe_glob _ _ (.ref (ds.getD 15 0)) _ _ rfl C.c_NoAmount rfl (by decide)) (by rfl)) (by decide) (by decide) (by rfl) (by rfl)) (@pe_callB _ _ _ _ _ _ _ _ _ (call_isiD K) rfl T.b_isinstance boot_isinstance (@pa2 _ _ _ _ _ (@cx _ 0 _ _ (by rfl)) (@pe_glob _ _ (.ref (ds.getD 16 0)) _ _ rfl C.c_NoDeed rfl (by decide)) (by rfl)) (by decide) (by decide) (by rfl) (by rfl)) (@pe_callB _ _ _ _ _ _ _ _ _ (call_isiD K) rfl T.b_isinstance boot_isinstance (@pa2 _ _ _ _ _ (@cx _ 0 _ _ (by rfl)) (@pe_glob _ _ (.ref (ds.getD 17 0)) _ _ rfl C.c_NoLine rfl (by decide)) (by rfl)) (by decide) (by decide) (by rfl) (by rfl)) (by rfl)))) (by rfl) (fl_of (by rfl))) (@pss_cons _ _ _ _ _ (@ps_expr _ _ _ _ (@pe_bm _ _ _ _ _ _ _ _ _ _ _ _ PySem.F.plainAttrs_list PySem.F.slot_list_append PySem.F.type_list_append mt_append (@cx _ 1 _ _ (by rfl)) (@pa1 _ _ _ (@pe_callB _ _ _ _ _ _ _ _ _ (call_isiD K) rfl T.b_isinstance boot_isinstance (@pa2 _ _ _ _ _ (@cx _ 0 _ _ (by rfl)) (@pe_glob _ _ (.ref (ds.getD 18 0)) _ _ rfl C.c_NoText rfl (by decide)) (by rfl)) (by decide) (by decide) (by rfl) (by rfl)) (by rfl)) (by rfl) (by rfl) (by rfl) (by rfl) (by rfl)) (by rfl)) (@pss_cons _ _ _ _ _ (@c_if _ _ _ _ _ _ _ _ (@PW.pt _ _ _ (@c_or _ _ _ _ _ _ _ (@c_cmpT _ _ _ _ _ _ _ _ (@op_ne _) (@pe_bmK K _ _ _ _ _ _ _ _ _ _ _ _ PySem.F.plainAttrs_list PySem.F.slot_list_count PySem.F.type_list_count mt_countB (@cx _ 1 _ _ (by rfl)) (@pa1 _ _ _ (@pe_bl _ _ _ _) (by rfl)) (by rfl) (by rfl) (by rfl) (by rfl) (by rfl) (by rfl)) (@pe_int _ _ _ _) (nomark _)) (@pw_or1 _ _ _ _ (@pt_not _ _ _ _ (@c_val _ _ _ (@pe_callB _ _ _ _ _ _ _ _ _ (call_isiD K) rfl T.b_isinstance boot_isinstance (@pa2 _ _ _ _ _ (@cx _ 0 _ _ (by rfl)) (@pe_bltn _ _ (.ty "ValueError") _ _ rfl T.b_ValueError PyProof.Rows.Boot.«ValueError» rfl (by decide) (by decide)) (by rfl)) (by decide) (by decide) (by rfl) (by rfl)) (by intro _; rfl)))))) (@pss_one _ _ _ (@ps_ret _ _ _ _ (@c_tup _ _ _ _ _ (@pa1 _ _ _ (@pe_str _ _ _ _) (by rfl))))) (@pss_nil _)) (@pss_cons _ _ _ _ _ (@ps_set _ _ (2) _ _ _ _ sc__law_kind.nd rfl (loc_of (by rfl)) (@c_lst _ _ _ _ (@pa_cons _ _ _ _ _ (@pe_str _ _ _ _) (@pa_cons _ _ _ _ _ (@pe_str _ _ _ _) (@pa_cons _ _ _ _ _ (@pe_str _ _ _ _) (@pa_cons _ _ _ _ _ (@pe_str _ _ _ _) (@pa_cons _ _ _ _ _ (@pe_str _ _ _ _) (@pa_cons _ _ _ _ _ (@pe_str _ _ _ _) (@pa_cons _ _ _ _ _ (@pe_str _ _ _ _) (@pa4 _ _ _ _ _ _ _ _ _ (@pe_str _ _ _ _) (@pe_str _ _ _ _) (@pe_str _ _ _ _) (@pe_str _ _ _ _) (by rfl)) (by rfl)) (by rfl)) (by rfl)) (by rfl)) (by rfl)) (by rfl)) (by rfl))) (by rfl) (fl_of (by rfl))) (@pss_cons _ _ _ _ _ (@ps_set _ _ (2) _ _ _ _ sc__law_kind.nd rfl (loc_of (by rfl)) (@pe_op _ _ _ _ _ _ _ _ (@op_cat _) (@cx _ 2 _ _ (by rfl)) (@c_lst _ _ _ _ (@pa_cons _ _ _ _ _ (@pe_str _ _ _ _) (@pa_cons _ _ _ _ _ (@pe_str _ _ _ _) (@pa_cons _ _ _ _ _ (@pe_str _ _ _ _) (@pa_cons _ _ _ _ _ (@pe_str _ _ _ _) (@pa4 _ _ _ _ _ _ _ _ _ (@pe_str _ _ _ _) (@pe_str _ _ _ _) (@pe_str _ _ _ _) (@pe_str _ _ _ _) (by rfl)) (by rfl)) (by rfl)) (by rfl)) (by rfl)))) (by rfl) (fl_of (by rfl))) (@pss_cons _ _ _ _ _ (@ps_set _ _ (3) _ _ _ _ sc__law_kind.nd rfl (loc_of (by rfl)) (@pe_ix _ _ _ _ _ _ _ (@ixL _ K (by rfl)) (@cx _ 2 _ _ (by rfl)) (@pe_bmK K _ _ _ _ _ _ _ _ _ _ _ _ PySem.F.plainAttrs_list PySem.F.slot_list_index PySem.F.type_list_index mt_indexB (@cx _ 1 _ _ (by rfl)) (@pa1 _ _ _ (@pe_bl _ _ _ _) (by rfl)) (by rfl) (by rfl) (by rfl) (by rfl) (by rfl) (by rfl)) (fun _ _ => rfl)) (by rfl) (fl_of (by rfl))) (@pss_one _ _ _ (@ps_ret _ _ _ _ (@c_ifE _ _ _ _ _ _ _ _ (@c_cmpT _ _ _ _ _ _ _ _ (@op_eq _) (@cx _ 3 _ _ (by rfl)) (@pe_str _ _ _ _) (nomark _)) (@c_tup _ _ _ _ _ (@pa2 _ _ _ _ _ (@cx _ 3 _ _ (by rfl)) (pe_xat (cv 0) rfl) (by rfl))) (@c_tup _ _ _ _ _ (@pa1 _ _ _ (@cx _ 3 _ _ (by rfl)) (by rfl)))))))))))))))), ?_⟩
 unfold sp_whichT at h
 split at h
 ·rename_i e
  obtain ⟨C0, dx, ws, he, hw, q⟩ := h
  obtain ⟨i, ei⟩ : ∃ i, i = 18 := ⟨_, rfl⟩
  obtain ⟨aD, vD, rfl, rfl, hok, hd, na, hD, rfl⟩ := hw.ex
  rw [← ei] at hok hd na he
  have hi : i < 19 := by omega
  obtain ⟨word, ewd⟩ : ∃ word, word = Str.ofString "text" := ⟨_, rfl⟩
  have kwd : kindWords[i]? = some word := by rw [ei, ewd]; rfl
  obtain ⟨O, _, kj, kV⟩ := wordOk_all hok
  have kk : ∀ j, j < 19 → ∀ u, RelV (.ref (ds.getD j 0)) u → PySem.W.kitOne K (.ref (ds.getD i 0)) u = some (j == i) := fun j hj u r => by
   cases (show u = Value.ref _ from r)
   exact kj j hj
  have kv : ∀ u, RelV (.ty "ValueError") u → PySem.W.kitOne K (.ref (ds.getD i 0)) u = some true := fun u r => by
   cases (show u = Value.type _ from r)
   exact kV
  refine ⟨e, _, _, _, _, rfl, he, O, kk 0 (by decide), ⟨e, _, _, _, _, rfl, he, O, kk 1 (by decide), ⟨e, _, _, _, _, rfl, he, O, kk 2 (by decide), ⟨e, _, _, _, _, rfl, he, O, kk 3 (by decide), ?_⟩⟩⟩⟩
  intro p0 n0
  have S0 : Same H (upd H p0 (.lst [.bl (0 == i), .bl (1 == i), .bl (2 == i), .bl (3 == i)])) := Same.new n0
  have m0 : upd H p0 (.lst [.bl (0 == i), .bl (1 == i), .bl (2 == i), .bl (3 == i)]) p0 = some (.lst ([0 == i, 1 == i, 2 == i, 3 == i].map V.bl)) := upd_same
  revert S0 m0
  generalize upd H p0 (.lst [.bl (0 == i), .bl (1 == i), .bl (2 == i), .bl (3 == i)]) = G0
  intro S0 m0
  have e0 := S0 e _ he
  refine ⟨e, _, _, _, _, rfl, e0, O, kk 4 (by decide), ⟨e, _, _, _, _, rfl, e0, O, kk 5 (by decide), ⟨e, _, _, _, _, rfl, e0, O, kk 6 (by decide), ⟨e, _, _, _, _, rfl, e0, O, kk 7 (by decide), ?_⟩⟩⟩⟩
  intro q1 k1
  have ne1 : p0 ≠ q1 := fun z => by rw [z, k1] at m0; cases m0
  refine ⟨p0, q1, _, _, rfl, rfl, (upd_ne ne1).trans m0, upd_same, few rfl, fun p1 n1 => ?_⟩
  have T1 : Same G0 (upd G0 q1 (.lst [.bl (4 == i), .bl (5 == i), .bl (6 == i), .bl (7 == i)])) := Same.new k1
  have S1 : Same H (upd (upd G0 q1 (.lst [.bl (4 == i), .bl (5 == i), .bl (6 == i), .bl (7 == i)])) p1 (.lst (([0 == i, 1 == i, 2 == i, 3 == i].map V.bl) ++ [.bl (4 == i), .bl (5 == i), .bl (6 == i), .bl (7 == i)]))) := (S0.trans T1).trans (Same.new n1)
  have m1 : upd (upd G0 q1 (.lst [.bl (4 == i), .bl (5 == i), .bl (6 == i), .bl (7 == i)])) p1 (.lst (([0 == i, 1 == i, 2 == i, 3 == i].map V.bl) ++ [.bl (4 == i), .bl (5 == i), .bl (6 == i), .bl (7 == i)])) p1 = some (.lst ([0 == i, 1 == i, 2 == i, 3 == i, 4 == i, 5 == i, 6 == i, 7 == i].map V.bl)) := upd_same
  revert S1 m1
  generalize upd (upd G0 q1 (.lst [.bl (4 == i), .bl (5 == i), .bl (6 == i), .bl (7 == i)])) p1 (.lst (([0 == i, 1 == i, 2 == i, 3 == i].map V.bl) ++ [.bl (4 == i), .bl (5 == i), .bl (6 == i), .bl (7 == i)])) = G1
  intro S1 m1
  have e1 := S1 e _ he
  refine ⟨e, _, _, _, _, rfl, e1, O, kk 8 (by decide), ⟨e, _, _, _, _, rfl, e1, O, kk 9 (by decide), ⟨e, _, _, _, _, rfl, e1, O, kk 10 (by decide), ?_⟩⟩⟩
  intro q2 k2
  have ne2 : p1 ≠ q2 := fun z => by rw [z, k2] at m1; cases m1
  refine ⟨p1, q2, _, _, rfl, rfl, (upd_ne ne2).trans m1, upd_same, few rfl, fun p2 n2 => ?_⟩
  have T2 : Same G1 (upd G1 q2 (.lst [.bl (8 == i), .bl (9 == i), .bl (10 == i)])) := Same.new k2
  have S2 : Same H (upd (upd G1 q2 (.lst [.bl (8 == i), .bl (9 == i), .bl (10 == i)])) p2 (.lst (([0 == i, 1 == i, 2 == i, 3 == i, 4 == i, 5 == i, 6 == i, 7 == i].map V.bl) ++ [.bl (8 == i), .bl (9 == i), .bl (10 == i)]))) := (S1.trans T2).trans (Same.new n2)
  have m2 : upd (upd G1 q2 (.lst [.bl (8 == i), .bl (9 == i), .bl (10 == i)])) p2 (.lst (([0 == i, 1 == i, 2 == i, 3 == i, 4 == i, 5 == i, 6 == i, 7 == i].map V.bl) ++ [.bl (8 == i), .bl (9 == i), .bl (10 == i)])) p2 = some (.lst ([0 == i, 1 == i, 2 == i, 3 == i, 4 == i, 5 == i, 6 == i, 7 == i, 8 == i, 9 == i, 10 == i].map V.bl)) := upd_same
  revert S2 m2
  generalize upd (upd G1 q2 (.lst [.bl (8 == i), .bl (9 == i), .bl (10 == i)])) p2 (.lst (([0 == i, 1 == i, 2 == i, 3 == i, 4 == i, 5 == i, 6 == i, 7 == i].map V.bl) ++ [.bl (8 == i), .bl (9 == i), .bl (10 == i)])) = G2
  intro S2 m2
  have e2 := S2 e _ he
  refine ⟨e, _, _, _, _, rfl, e2, O, kk 11 (by decide), ⟨e, _, _, _, _, rfl, e2, O, kk 12 (by decide), ⟨e, _, _, _, _, rfl, e2, O, kk 13 (by decide), ?_⟩⟩⟩
  intro q3 k3
  have ne3 : p2 ≠ q3 := fun z => by rw [z, k3] at m2; cases m2
  refine ⟨p2, q3, _, _, rfl, rfl, (upd_ne ne3).trans m2, upd_same, few rfl, fun p3 n3 => ?_⟩
  have T3 : Same G2 (upd G2 q3 (.lst [.bl (11 == i), .bl (12 == i), .bl (13 == i)])) := Same.new k3
  have S3 : Same H (upd (upd G2 q3 (.lst [.bl (11 == i), .bl (12 == i), .bl (13 == i)])) p3 (.lst (([0 == i, 1 == i, 2 == i, 3 == i, 4 == i, 5 == i, 6 == i, 7 == i, 8 == i, 9 == i, 10 == i].map V.bl) ++ [.bl (11 == i), .bl (12 == i), .bl (13 == i)]))) := (S2.trans T3).trans (Same.new n3)
  have m3 : upd (upd G2 q3 (.lst [.bl (11 == i), .bl (12 == i), .bl (13 == i)])) p3 (.lst (([0 == i, 1 == i, 2 == i, 3 == i, 4 == i, 5 == i, 6 == i, 7 == i, 8 == i, 9 == i, 10 == i].map V.bl) ++ [.bl (11 == i), .bl (12 == i), .bl (13 == i)])) p3 = some (.lst ([0 == i, 1 == i, 2 == i, 3 == i, 4 == i, 5 == i, 6 == i, 7 == i, 8 == i, 9 == i, 10 == i, 11 == i, 12 == i, 13 == i].map V.bl)) := upd_same
  revert S3 m3
  generalize upd (upd G2 q3 (.lst [.bl (11 == i), .bl (12 == i), .bl (13 == i)])) p3 (.lst (([0 == i, 1 == i, 2 == i, 3 == i, 4 == i, 5 == i, 6 == i, 7 == i, 8 == i, 9 == i, 10 == i].map V.bl) ++ [.bl (11 == i), .bl (12 == i), .bl (13 == i)])) = G3
  intro S3 m3
  have e3 := S3 e _ he
  refine ⟨e, _, _, _, _, rfl, e3, O, kk 14 (by decide), ⟨e, _, _, _, _, rfl, e3, O, kk 15 (by decide), ⟨e, _, _, _, _, rfl, e3, O, kk 16 (by decide), ⟨e, _, _, _, _, rfl, e3, O, kk 17 (by decide), ?_⟩⟩⟩⟩
  intro q4 k4
  have ne4 : p3 ≠ q4 := fun z => by rw [z, k4] at m3; cases m3
  refine ⟨p3, q4, _, _, rfl, rfl, (upd_ne ne4).trans m3, upd_same, few rfl, fun p4 n4 => ?_⟩
  have T4 : Same G3 (upd G3 q4 (.lst [.bl (14 == i), .bl (15 == i), .bl (16 == i), .bl (17 == i)])) := Same.new k4
  have S4 : Same H (upd (upd G3 q4 (.lst [.bl (14 == i), .bl (15 == i), .bl (16 == i), .bl (17 == i)])) p4 (.lst (([0 == i, 1 == i, 2 == i, 3 == i, 4 == i, 5 == i, 6 == i, 7 == i, 8 == i, 9 == i, 10 == i, 11 == i, 12 == i, 13 == i].map V.bl) ++ [.bl (14 == i), .bl (15 == i), .bl (16 == i), .bl (17 == i)]))) := (S3.trans T4).trans (Same.new n4)
  have m4 : upd (upd G3 q4 (.lst [.bl (14 == i), .bl (15 == i), .bl (16 == i), .bl (17 == i)])) p4 (.lst (([0 == i, 1 == i, 2 == i, 3 == i, 4 == i, 5 == i, 6 == i, 7 == i, 8 == i, 9 == i, 10 == i, 11 == i, 12 == i, 13 == i].map V.bl) ++ [.bl (14 == i), .bl (15 == i), .bl (16 == i), .bl (17 == i)])) p4 = some (.lst ([0 == i, 1 == i, 2 == i, 3 == i, 4 == i, 5 == i, 6 == i, 7 == i, 8 == i, 9 == i, 10 == i, 11 == i, 12 == i, 13 == i, 14 == i, 15 == i, 16 == i, 17 == i].map V.bl)) := upd_same
  revert S4 m4
  generalize upd (upd G3 q4 (.lst [.bl (14 == i), .bl (15 == i), .bl (16 == i), .bl (17 == i)])) p4 (.lst (([0 == i, 1 == i, 2 == i, 3 == i, 4 == i, 5 == i, 6 == i, 7 == i, 8 == i, 9 == i, 10 == i, 11 == i, 12 == i, 13 == i].map V.bl) ++ [.bl (14 == i), .bl (15 == i), .bl (16 == i), .bl (17 == i)])) = G4
  intro S4 m4
  have e4 := S4 e _ he
  refine ⟨.inl ⟨rfl, _, SqL.of m4⟩, ?_⟩
  refine ⟨e, _, _, _, _, rfl, e4, O, kk 18 (by decide), ?_⟩
  refine ⟨p4, _, _, rfl, rfl, m4, small1000 (Nat.le_of_ble_eq_true rfl), ?_⟩
  have ne5 : e ≠ p4 := fun z => by rw [z, m4] at e4; cases e4
  have m5 : upd G4 p4 (.lst ([0 == i, 1 == i, 2 == i, 3 == i, 4 == i, 5 == i, 6 == i, 7 == i, 8 == i, 9 == i, 10 == i, 11 == i, 12 == i, 13 == i, 14 == i, 15 == i, 16 == i, 17 == i].map V.bl ++ [.bl (18 == i)])) p4 = some (.lst ([0 == i, 1 == i, 2 == i, 3 == i, 4 == i, 5 == i, 6 == i, 7 == i, 8 == i, 9 == i, 10 == i, 11 == i, 12 == i, 13 == i, 14 == i, 15 == i, 16 == i, 17 == i, 18 == i].map V.bl)) := upd_same
  have e5 : upd G4 p4 (.lst ([0 == i, 1 == i, 2 == i, 3 == i, 4 == i, 5 == i, 6 == i, 7 == i, 8 == i, 9 == i, 10 == i, 11 == i, 12 == i, 13 == i, 14 == i, 15 == i, 16 == i, 17 == i].map V.bl ++ [.bl (18 == i)])) e = some (excD e (ds.getD i 0) (some aD)) := (upd_ne ne5).trans e4
  have f4 : H p4 = none := (S3.trans T4).free n4
  have S5 : Same H (upd G4 p4 (.lst ([0 == i, 1 == i, 2 == i, 3 == i, 4 == i, 5 == i, 6 == i, 7 == i, 8 == i, 9 == i, 10 == i, 11 == i, 12 == i, 13 == i, 14 == i, 15 == i, 16 == i, 17 == i].map V.bl ++ [.bl (18 == i)]))) := Same.evOwn S4 f4 (Ev.pen m4)
  revert m5 e5 S5
  generalize upd G4 p4 (.lst ([0 == i, 1 == i, 2 == i, 3 == i, 4 == i, 5 == i, 6 == i, 7 == i, 8 == i, 9 == i, 10 == i, 11 == i, 12 == i, 13 == i, 14 == i, 15 == i, 16 == i, 17 == i].map V.bl ++ [.bl (18 == i)])) = GA
  intro m5 e5 S5
  have cnt : ([0 == i, 1 == i, 2 == i, 3 == i, 4 == i, 5 == i, 6 == i, 7 == i, 8 == i, 9 == i, 10 == i, 11 == i, 12 == i, 13 == i, 14 == i, 15 == i, 16 == i, 17 == i, 18 == i] : List Bool).count true = 1 := (by decide : ∀ i, i < 19 → ([0 == i, 1 == i, 2 == i, 3 == i, 4 == i, 5 == i, 6 == i, 7 == i, 8 == i, 9 == i, 10 == i, 11 == i, 12 == i, 13 == i, 14 == i, 15 == i, 16 == i, 17 == i, 18 == i] : List Bool).count true = 1) i hi
  refine ⟨.inl ⟨rfl, _, SqL.of m5⟩, ⟨p4, _, rfl, rfl, m5, ?_⟩⟩
  rw [cnt]
  refine ⟨rfl, ⟨fun c => ?_, fun _ => ?_⟩⟩
  ·exact absurd c (by decide)
  refine ⟨e, _, _, _, _, rfl, e5, O, kv, ⟨fun c => ?_, fun _ => ?_⟩⟩
  ·cases c
  intro w0 u0
  have Sw : Same GA (upd GA w0 (.lst ((kindWords.take 11).map V.str))) := Same.new u0
  have mw : upd GA w0 (.lst ((kindWords.take 11).map V.str)) w0 = some (.lst ((kindWords.take 11).map V.str)) := upd_same
  revert Sw mw
  generalize hg : upd GA w0 (.lst ((kindWords.take 11).map V.str)) = G5
  intro Sw mw
  have hg' : (upd GA w0 (.lst [.str "plant", .str "story", .str "firing", .str "hour", .str "boiler", .str "prices", .str "way", .str "set", .str "tanks", .str "pump", .str "feeding"])) = G5 := hg
  rw [hg']
  intro w1 u1
  have nw : w0 ≠ w1 := fun z => by rw [z, u1] at mw; cases mw
  refine ⟨w0, w1, _, _, rfl, rfl, (upd_ne nw).trans mw, upd_same, few rfl, fun w2 u2 => ?_⟩
  have S6 : Same G5 (upd (upd G5 w1 (.lst ((kindWords.drop 11).map V.str))) w2 (.lst (kindWords.map V.str))) := (Same.new u1).trans (Same.new u2)
  have m6 : upd (upd G5 w1 (.lst ((kindWords.drop 11).map V.str))) w2 (.lst (kindWords.map V.str)) w2 = some (.lst (kindWords.map V.str)) := upd_same
  revert S6 m6
  generalize hg6 : upd (upd G5 w1 (.lst ((kindWords.drop 11).map V.str))) w2 (.lst (kindWords.map V.str)) = G6
  intro S6 m6
  have m7 := S6 p4 _ (Sw p4 _ m5)
  have hb1 : ([0 == i, 1 == i, 2 == i, 3 == i, 4 == i, 5 == i, 6 == i, 7 == i, 8 == i, 9 == i, 10 == i, 11 == i, 12 == i, 13 == i, 14 == i, 15 == i, 16 == i, 17 == i, 18 == i] : List Bool)[i]? = some true := (by decide : ∀ i, i < 19 → ([0 == i, 1 == i, 2 == i, 3 == i, 4 == i, 5 == i, 6 == i, 7 == i, 8 == i, 9 == i, 10 == i, 11 == i, 12 == i, 13 == i, 14 == i, 15 == i, 16 == i, 17 == i, 18 == i] : List Bool)[i]? = some true) i hi
  have hb2 : ∀ m, m < i → ([0 == i, 1 == i, 2 == i, 3 == i, 4 == i, 5 == i, 6 == i, 7 == i, 8 == i, 9 == i, 10 == i, 11 == i, 12 == i, 13 == i, 14 == i, 15 == i, 16 == i, 17 == i, 18 == i] : List Bool)[m]? = some false := fun m hm => (by decide : ∀ i, i < 19 → ∀ m, m < i → ([0 == i, 1 == i, 2 == i, 3 == i, 4 == i, 5 == i, 6 == i, 7 == i, 8 == i, 9 == i, 10 == i, 11 == i, 12 == i, 13 == i, 14 == i, 15 == i, 16 == i, 17 == i, 18 == i] : List Bool)[m]? = some false) i hi m hm
  have hat : atI (kindWords.map V.str) (i : Int) = some (.str word) := by
   rw [atI_nat]
   rw [List.getElem?_map, kwd]
   rfl
  have hg6' : (upd (upd G5 w1 (.lst [.str "readings", .str "start", .str "shifts", .str "book", .str "amount", .str "no deed", .str "line", .str "text"])) w2 (.lst ((kindWords.take 11).map V.str ++ [.str "readings", .str "start", .str "shifts", .str "book", .str "amount", .str "no deed", .str "line", .str "text"]))) = G6 := hg6
  rw [hg6']
  refine ⟨.inl ⟨rfl, _, SqL.of m7⟩, ⟨p4, _, i, rfl, rfl, m7, Nat.le_of_ble_eq_true rfl, hb1, hb2, ⟨w2, _, _, _, rfl, rfl, SqL.of m6, hat, ?_⟩⟩⟩
  have e7 := S6 e _ (Sw e _ e5)
  have d7 := S6 aD _ (Sw aD _ (S5 aD _ hD))
  refine ⟨rfl, ⟨fun c => ?_, fun c => ?_⟩⟩
  ·refine ⟨e, _, _, _, vD, rfl, e7, d7, O, hd, na, rfl, fun t ht => ?_⟩
   rw [ewd]
   exact q _ t (((S5.trans Sw).trans S6).trans (Same.new ht)) upd_same
  ·rw [ewd] at c
   exact absurd c (by decide +kernel)
 ·exact h.elim
theorem sc__law_said : FnScope ["_law_call", "_law_e"] ["_law_call"] (defScope s__law_said) := ⟨rfl, rfl, rfl, by decide +kernel, rfl, by decide +kernel, by decide +kernel⟩
theorem ok__law_said (F : Df K mg "_law_said" s__law_said ["_law_call"]) (C : Tc K mg M ds) (Dw : FnQ P w K mg base 1 "_law_kind" ["_law_e"] (sp_whichT (WT K M ds))) : FnS P w K mg base 12 "_law_said" ["_law_call"] (saidSpT P w K mg base 11 (WT K M ds)) :=
 said_fnT F sc__law_said rfl rfl rfl rfl rfl C.c_MainError C.mB C.mT (fun _ _ _ _ h => h.mro) (fun _ _ _ _ _ h k => h.keep k) Dw (by decide)
end
end MF

end

section
namespace MF
open PySem PySem.Spec PyProof.Rows L2
theorem pickV {xs : List V} {g : Int} (h0 : 0 ≤ g) (h1 : g < xs.length) : ∃ (j : Nat) (v : V), xs[j]? = some v ∧ atI xs g = some v := by
 have hk : g.toNat < xs.length := by omega
 have e : g = ((g.toNat : Nat) : Int) := by omega
 refine ⟨g.toNat, xs[g.toNat], by simp [hk], ?_⟩
 have q : atI xs ((g.toNat : Nat) : Int) = some xs[g.toNat] := atI_nat (by simp [hk])
 rw [← e] at q
 exact q
theorem pickD {p : Addr} {H : Hp} {ds : List PyData} {xs : List V} {g : Int} (r : Reps p H ds xs) (h0 : 0 ≤ g) (h1 : g < xs.length) : ∃ v d, atI xs g = some v ∧ d ∈ ds ∧ Rep p H d v := by
 obtain ⟨j, v, hj, hv⟩ := pickV h0 h1
 obtain ⟨d, hd, rd⟩ := r.got hj
 exact ⟨v, d, hv, List.mem_of_getElem? hd, rd⟩
def oddDs : List PyData := [.none, .bool true, .int 7, .str "0", .str "", .list [], .dict [], .tuple [], .tuple [.int 0], .int (-1), .tuple [.int 0, .int 0], .list [.int 0], .bool false, .tuple [.tuple []], .tuple [.tuple [.int 0], .tuple []], .int 41, .int (10 ^ 30)]
def sp__law_odd : Sp := fun vs H Q _ => match vs with | [.ref p] => Pen p H ∧ ∀ v H' d, Rep p H' d v → d ∈ oddDs → Ev p H H' → Pen p H' → Q v H' | _ => False
def Fit (F : List (List Int)) : Prop := F.length ≤ 8 ∧ ∀ r ∈ F, r.length ≤ 4 ∧ ∀ n ∈ r, 0 ≤ n ∧ n ≤ 9
def sp__law_text : Sp := fun vs H Q _ => match vs with | [x] => ∃ p F, Fit F ∧ Rep p H (FD F) x ∧ ∀ H', Same H H' → Q (.str (fireT F)) H' | _ => False
def sp__law_row : Sp := fun vs H Q _ => match vs with | [.ref a, .str t] => ∃ cs : List Int, H a = some (.tup (cs.map V.int)) ∧ cs.length ≤ 4 ∧ (∀ c ∈ cs, 0 ≤ c ∧ c ≤ 9) ∧ t.length ≤ 200000 ∧ (rowR cs (splitF t " ") = none → ∀ H', Same H H' → Q .non H') ∧ (∀ r b H', rowR cs (splitF t " ") = some r → Same H H' → H' b = some (.tup (r.map V.int)) → Q (.ref b) H') | _ => False
def dueD (C : List (List Int)) (d : PyData) : PyData := match readD C d with | .inl n => .tuple [.str "text", .int n] | .inr F => .tuple [.str "told", FD F]
def sp__law_due : Sp := fun vs H Q _ => match vs with | [v, x] => ∃ p C d, Fit C ∧ Rep p H (FD C) v ∧ Rep p H d x ∧ (∀ t, d = .str t → t.length ≤ 200000) ∧ ∀ b H', Same H H' → Rep p H' (dueD C d) (.ref b) → Q (.ref b) H' | _ => False
def sp__law_bent : Sp := fun vs H Q _ => match vs with | [.ref p, .str t] => Pen p H ∧ t.length ≤ 900 ∧ ∀ s H', s.length ≤ 3000 → Ev p H H' → Pen p H' → Q (.str s) H' | _ => False
def sp__law_texts : Sp := fun vs H Q _ => match vs with | [.ref p, x, y] => Pen p H ∧ ∃ F C, Fit F ∧ Fit C ∧ Rep p H (FD F) x ∧ Rep p H (FD C) y ∧ ∀ L (ss : List Str) H', H L = none → H' L = some (.lst (ss.map V.str)) → (∀ s ∈ ss, s.length ≤ 200000) → ss.length ≤ 40 → Ev p H H' → Pen p H' → Q (.ref L) H' | _ => False
theorem rowOk_of {cs : List Int} {ws : List Str} (hl : ws.length = cs.length) (h : ∀ (i : Nat) w c, ws[i]? = some w → cs[i]? = some c → ∃ n : Nat, w = nT (n : Int) ∧ (n : Int) ≤ c) : rowOk cs ws = true := by
 unfold rowOk
 rw [decide_eq_true hl, Bool.true_and]
 refine List.all_eq_true.mpr fun b hb => ?_
 obtain ⟨i, hi⟩ := List.getElem?_of_mem hb
 rw [List.getElem?_zipWith] at hi
 split at hi
 ·rename_i c w hc hw
  cases hi
  obtain ⟨n, rfl, hn⟩ := h i w c hw hc
  exact numOk_nT hn
 ·cases hi
theorem digit_of {ws : List Str} (hd : ∀ w ∈ ws, ∃ n : Nat, n < 10 ∧ w = nT (n : Int)) {i : Nat} {w : Str} (hw : ws[i]? = some w) : ∃ n : Nat, n < 10 ∧ w = nT (n : Int) ∧ numV w = (n : Int) := by
 obtain ⟨n, hn, rfl⟩ := hd w (List.mem_of_getElem? hw)
 exact ⟨n, hn, rfl, numV_nT n hn⟩
theorem take_mem {α : Type} {l : List α} {i : Nat} {x y : α} (hx : l[i]? = some x) (h : y ∈ l.take (i + 1)) : y ∈ l.take i ∨ y = x := by
 rw [take_next hx] at h
 exact (List.mem_append.mp h).imp_right fun z => List.mem_singleton.mp z
theorem pickS {ss : List Str} {g : Int} (h0 : 0 ≤ g) (h1 : g < (ss.length : Int)) : ∃ s, s ∈ ss ∧ atI (ss.map V.str) g = some (.str s) := by
 obtain ⟨i, rfl⟩ := Int.eq_ofNat_of_zero_le h0
 have hi : i < ss.length := by omega
 exact ⟨ss[i], List.getElem_mem hi, atI_nat (by rw [List.getElem?_map, List.getElem?_eq_getElem hi]; rfl)⟩
theorem pickC {z : Str} {g : Int} (h0 : 0 ≤ g) (h1 : g < (z.length : Int)) : ∃ c, atI z.cps.toList g = some c := by
 obtain ⟨i, rfl⟩ := Int.eq_ofNat_of_zero_le h0
 have hi : i < z.cps.toList.length := by rw [Array.length_toList]; have : z.length = z.cps.size := rfl; omega
 exact ⟨_, atI_nat (List.getElem?_eq_getElem hi)⟩
theorem len3 {a b c : Str} {n m k : Nat} (h1 : a.length ≤ n) (h2 : b.length ≤ m) (h3 : c.length ≤ k) (h : n + m + k ≤ 3000) : a.length + b.length ≤ sizeLine ∧ (a ++ b).length + c.length ≤ sizeLine ∧ (a ++ b ++ c).length ≤ 3000 := by
 have z : 3000 ≤ sizeLine := by decide
 simp only [strLen_append]
 omega
theorem len2 {a b : Str} {n m : Nat} (h1 : a.length ≤ n) (h2 : b.length ≤ m) (h : n + m ≤ 3000) : a.length + b.length ≤ sizeLine ∧ (a ++ b).length ≤ 3000 := by
 have z : 3000 ≤ sizeLine := by decide
 simp only [strLen_append]
 omega
def StL (B : Nat) (xs : List V) : Prop := ∀ v ∈ xs, ∃ s : Str, v = .str s ∧ s.length ≤ B
theorem StL.cons {B : Nat} {s : Str} {xs : List V} (h : s.length ≤ B) (t : StL B xs) : StL B (.str s :: xs) := fun v hv => by
 rcases List.mem_cons.mp hv with rfl | hv
 ·exact ⟨s, rfl, h⟩
 ·exact t v hv
theorem StL.nil {B : Nat} : StL B [] := fun v hv => by cases hv
theorem StL.app {B : Nat} {xs ys : List V} (h : StL B xs) (t : StL B ys) : StL B (xs ++ ys) := fun v hv => (List.mem_append.mp hv).elim (h v) (t v)
theorem StL.sub {B : Nat} {xs ys : List V} (h : StL B xs) (k : ∀ v ∈ ys, v ∈ xs) : StL B ys := fun v hv => h v (k v hv)
theorem StL.strs {B : Nat} : ∀ {xs : List V}, StL B xs → ∃ ss : List Str, xs = ss.map V.str ∧ (∀ s ∈ ss, s.length ≤ B) ∧ ss.length = xs.length
 | [], _ => ⟨[], rfl, fun _ h => (by cases h), rfl⟩
 | x :: xs, h => by
  obtain ⟨s, rfl, hs⟩ := h x (List.mem_cons_self ..)
  obtain ⟨ss, rfl, hss, _⟩ := StL.strs fun v hv => h v (List.mem_cons_of_mem _ hv)
  exact ⟨s :: ss, rfl, fun z hz => (List.mem_cons.mp hz).elim (fun e => e ▸ hs) (hss z), by simp⟩
theorem fireT_len {F : List (List Int)} (h : Fit F) : (fireT F).length ≤ 392 := by
 have e : (Str.ofString "/").length = 1 := by decide
 have := join_len (sep := "/") (l := F.map rowT) (B := 48) fun x hx => by
  obtain ⟨r, hr, rfl⟩ := List.mem_map.mp hx
  obtain ⟨a, b⟩ := h.2 r hr
  exact rowT_len b a
 rw [List.length_map, e] at this
 have f8 := h.1
 unfold fireT
 omega
theorem jfit {ss : List Str} (h : ∀ s ∈ ss, s.length ≤ 392) (l : ss.length ≤ 500) : Builtin.Str.tooLong (ss.toArray.foldl (· + ·.length + (Str.ofString "/").length) 0) = false ∧ (joinF "/" ss).length ≤ sizeLine ∧ (joinF "/" ss).length ≤ 200000 := by
 have e : (Str.ofString "/").length = 1 := by decide
 obtain ⟨a, b⟩ := join_fit (sep := "/") (l := ss) (B := 392) h (by rw [e]; omega)
 refine ⟨a, b, Nat.le_trans (join_len (sep := "/") h) (by rw [e]; omega)⟩
theorem Reps.takeB {p : Addr} {H : Hp} : ∀ {ds : List PyData} {xs : List V} (i : Nat), Reps p H ds xs → Reps p H (ds.take i) (xs.take i)
 | [], xs, i, r => by unfold Reps at r; subst r; simp; exact .nil
 | d :: ds, xs, 0, r => by simp; exact .nil
 | d :: ds, xs, i + 1, r => by
  unfold Reps at r
  obtain ⟨x, t, rfl, rx, rt⟩ := r
  rw [List.take_succ_cons, List.take_succ_cons]
  exact .cons rx (Reps.takeB i rt)
theorem cut_memS {xs : List V} {lo hi : Option Int} {v : V} (h : v ∈ cutV xs lo hi) : v ∈ xs := by unfold cutV at h; exact List.mem_of_mem_drop (List.mem_of_mem_take h)
theorem StL.of {B : Nat} {ss : List Str} (h : ∀ s ∈ ss, s.length ≤ B) : StL B (ss.map V.str) := fun v hv => by
 obtain ⟨s, hs, rfl⟩ := List.mem_map.mp hv
 exact ⟨s, rfl, h s hs⟩
section
variable {P : Program} {w : World} {K : PySem.W.Frag} {mg : Str → Option Value} {base : Heap}
theorem sc__law_odd : FnScope ["_law_pen_here", "_law_some"] ["_law_pen_here"] (defScope s__law_odd) := ⟨rfl, rfl, rfl, by decide +kernel, rfl, by decide +kernel, by decide +kernel⟩
theorem ok__law_odd (F : Df K mg "_law_odd" s__law_odd ["_law_pen_here"]) (T : Tx mg) (D__law_draw : Fn P w K mg base 1 "_law_draw" ["_law_pen_here", "_law_many"] sp__law_draw) : Fn P w K mg base 2 "_law_odd" ["_law_pen_here"] sp__law_odd := by
 refine F.fn sc__law_odd (fun vs H Q E h => ?_) (fun f cdv A outer s H vs Q E hr h => ?_)
 ·unfold sp__law_odd at h; split at h; rfl; exact h.elim
 refine ⟨_, (@pss_cons _ _ _ _ _ (@ps_set _ _ (1) _ _ _ _ sc__law_odd.nd rfl (loc_of (by rfl)) (@c_lstG _ _ _ _ (@pa_cons _ _ _ _ _ (@pe_non _ _ _) (@pa_cons _ _ _ _ _ (@pe_bl _ _ _ _) (@pa_cons _ _ _ _ _ (@pe_int _ _ _ _) (@pa_cons _ _ _ _ _ (@pe_str _ _ _ _) (@pa_cons _ _ _ _ _ (@pe_str _ _ _ _) (@pa_cons _ _ _ _ _ (@c_lstG _ _ _ _ (@pa_nil _)) (@pa_cons _ _ _ _ _ (@c_dict _ _) (@pa_cons _ _ _ _ _ (@c_tupG _ _ _ _ _ (@pa_nil _)) (@pa_cons _ _ _ _ _ (@c_tupG _ _ _ _ _ (@pa1 _ _ _ (@pe_int _ _ _ _) (by rfl))) (@pa_cons _ _ _ _ _ c_neg1 (@pa_cons _ _ _ _ _ (@c_tupG _ _ _ _ _ (@pa2 _ _ _ _ _ (@pe_int _ _ _ _) (@pe_int _ _ _ _) (by rfl))) (@pa_cons _ _ _ _ _ (@c_lstG _ _ _ _ (@pa1 _ _ _ (@pe_int _ _ _ _) (by rfl))) (@pa_cons _ _ _ _ _ (@pe_bl _ _ _ _) (@pa4 _ _ _ _ _ _ _ _ _ (@c_tupG _ _ _ _ _ (@pa1 _ _ _ (@c_tupG _ _ _ _ _ (@pa_nil _)) (by rfl))) (@c_tupG _ _ _ _ _ (@pa2 _ _ _ _ _ (@c_tupG _ _ _ _ _ (@pa1 _ _ _ (@pe_int _ _ _ _) (by rfl))) (@c_tupG _ _ _ _ _ (@pa_nil _)) (by rfl))) (@pe_int _ _ _ _) (@pe_op _ _ _ _ _ _ _ _ (@o_pow _) (@pe_int _ _ _ _) (@pe_int _ _ _ _)) (by rfl)) (by rfl)) (by rfl)) (by rfl)) (by rfl)) (by rfl)) (by rfl)) (by rfl)) (by rfl)) (by rfl)) (by rfl)) (by rfl)) (by rfl)) (by rfl))) (by rfl) (fl_of (by rfl))) (@pss_one _ _ _ (@ps_ret _ _ _ _ (@pe_ix _ _ _ _ _ _ _ (@ixL _ K (by rfl)) (@cx _ 1 _ _ (by rfl)) (@c_call _ _ _ _ _ _ _ _ _ _ D__law_draw (hr.mono (by decide)) rfl (@pa2 _ _ _ _ _ (@cx _ 0 _ _ (by rfl)) (@pe_int _ _ _ _) (by rfl)) (by decide) (by rfl) (by rfl)) (fun _ _ => rfl))))), ?_⟩
 unfold sp__law_odd at h
 split at h
 ·rename_i p
  obtain ⟨pn, q⟩ := h
  intro l1 G1 g1 hl1 k1 d1 hd1
  have n1 := Same.new (o := .dK []) hd1
  have kd : upd G1 d1 (.dK []) d1 = some (.dK []) := upd_same
  have nd : d1 ≠ p := (pn.same g1).ne hd1
  generalize upd G1 d1 (.dK []) = Gd at n1 kd ⊢
  intro t1 G2 g2 k2 t2 G3 g3 k3 t3 G4 g4 k4 l2 G5 g5 hl2 k5 t4 G6 g6 k6 t5 G7 g7 k7 t6 G8 g8 k8 t7 G9 g9 k9 t8 G10 g10 k10
  refine ⟨⟨by decide, by decide, by decide⟩, fun L H1 g11 hL kL => ?_⟩
  have b9 := g10.trans g11
  have b8 := g9.trans b9
  have b7 := g8.trans b8
  have b6 := g7.trans b7
  have b5 := g6.trans b6
  have b4 := g5.trans b5
  have b3 := g4.trans b4
  have b2 := g3.trans b3
  have b1 := g2.trans b2
  have bd := n1.trans b1
  have s10 := g1.trans (n1.trans (g2.trans (g3.trans (g4.trans (g5.trans (g6.trans (g7.trans (g8.trans (g9.trans g10)))))))))
  have s1 := s10.trans g11
  have nL : L ≠ p := (pn.same s10).ne hL
  have e30 : (10 : Int) ^ Int.toNat 30 = 10 ^ 30 := by decide
  have i0 : ∀ {H : Hp}, Rep p H (.int 0) (.int 0) := Rep.int
  have rL : Reps p H1 oddDs _ := .cons Rep.non (.cons Rep.bl (.cons Rep.int (.cons Rep.str (.cons Rep.str (.cons (Rep.lst (pn.ne hl1) (bd _ _ k1) .nil) (.cons (by unfold Rep; exact ⟨d1, _, rfl, nd, .inl ⟨rfl, rfl⟩, b1 _ _ kd⟩) (.cons (Rep.tup (b2 _ _ k2) .nil) (.cons (Rep.tup (b3 _ _ k3) (.cons i0 .nil)) (.cons Rep.int (.cons (Rep.tup (b4 _ _ k4) (.cons i0 (.cons i0 .nil))) (.cons (Rep.lst ((pn.same (g1.trans (n1.trans (g2.trans (g3.trans g4))))).ne hl2) (b5 _ _ k5) (.cons i0 .nil)) (.cons Rep.bl (.cons (Rep.tup (b7 _ _ k7) (.cons (Rep.tup (b6 _ _ k6) .nil) .nil)) (.cons (Rep.tup (g11 _ _ k10) (.cons (Rep.tup (b8 _ _ k8) (.cons i0 .nil)) (.cons (Rep.tup (b9 _ _ k9) .nil) .nil))) (.cons Rep.int (.cons (by show Rep p H1 (.int (10 ^ 30)) (.int (10 ^ Int.toNat 30)); rw [e30]; exact Rep.int) .nil))))))))))))))))
  have hlen := rL.len
  refine ⟨pn.same s1, by decide, by decide, fun g H2 h0 h1 e1 pn2 => ?_⟩
  obtain ⟨v, d, hat, hd, rd⟩ := pickD (Reps.ev e1 _ _ rL) h0 (by show g < 17; omega)
  exact ⟨L, _, g, v, rfl, rfl, SqL.of (e1.lst kL nL), hat, q v H2 d rd hd ((Ev.same s1).trans e1) pn2⟩
 ·exact h.elim
theorem sc__law_text : FnScope ["_law_firing_here"] ["_law_firing_here"] (defScope s__law_text) := ⟨rfl, rfl, rfl, by decide +kernel, rfl, by decide +kernel, by decide +kernel⟩
theorem ok__law_text (F : Df K mg "_law_text" s__law_text ["_law_firing_here"]) (T : Tx mg)  : Fn P w K mg base 1 "_law_text" ["_law_firing_here"] sp__law_text := by
  refine F.fn sc__law_text (fun vs H Q E h => ?_) (fun f cdv A outer s H vs Q E hr h => ?_)
  · unfold sp__law_text at h; split at h; rfl; exact h.elim
  refine ⟨_, (@pss_one _ _ _ (@ps_ret _ _ _ _ (@pe_bmK K _ _ _ _ _ _ _ _ _ _ _ _ PySem.F.plainAttrs_str PySem.F.slot_str_join PySem.F.type_str_join mt_join (@pe_str _ _ _ _) (@pa1 _ _ _ (@pe_comp _ _ _ _ _ _ _ _ _ _ _ ["_law_row_here"] [none] rfl (@piT _ K _ _ _ (@cx _ 0 _ _ (by rfl)) (by rfl)) (BlockScope.of rfl) (fun _ _ _ _ => (@pgx _ _ _ 0 (nd_of (by rfl)) (by rfl))) (fun _ _ _ _ => (@pts_nil _)) (fun _ _ _ _ => (@pe_bmK K _ _ _ _ _ _ _ _ _ _ _ _ PySem.F.plainAttrs_str PySem.F.slot_str_join PySem.F.type_str_join mt_join (@pe_str _ _ _ _) (@pa1 _ _ _ (@pe_comp _ _ _ _ _ _ _ _ _ _ _ ["_law_steam"] [none] rfl (@piT _ K _ _ _ (@cx _ 0 _ _ (by rfl)) (by rfl)) (BlockScope.of rfl) (fun _ _ _ _ => (@pgx _ _ _ 0 (nd_of (by rfl)) (by rfl))) (fun _ _ _ _ => (@pts_nil _)) (fun _ _ _ _ => (@pe_callTy _ _ _ _ _ _ _ _ _ (@call_str_int _) rfl T.b_str boot_str' (@pa1 _ _ _ (@cx _ 0 _ _ (by rfl)) (by rfl)) (by decide) (by decide) (by rfl) (by rfl))) (by intro _; rfl)) (by rfl)) (by rfl) (by rfl) (by rfl) (by rfl) (by rfl) (by rfl))) (by intro _; rfl)) (by rfl)) (by rfl) (by rfl) (by rfl) (by rfl) (by rfl) (by rfl)))), ?_⟩
  unfold sp__law_text at h
  split at h
  · rename_i v
    obtain ⟨p, F, ⟨f8, fr⟩, rw0, q⟩ := h
    obtain ⟨FA, fx, rfl, hFA, rfx⟩ := Rep.firing rw0
    have lf := rfx.len
    rw [List.length_map] at lf
    have rows : ∀ (i : Nat) r, F[i]? = some r → (∀ n ∈ r, 0 ≤ n ∧ n ≤ 9) ∧ r.length ≤ 4 := fun i r hr => ⟨(fr r (List.mem_of_getElem? hr)).2, (fr r (List.mem_of_getElem? hr)).1⟩
    refine ⟨rfl, FA, rfl, ⟨_, SqT.of hFA⟩, walk_tup (xs := fx) (fun j zs H' => Same H H' ∧ zs = ((F.take j).map rowT).map V.str) (by omega) ⟨Same.refl _, rfl⟩ (fun j zs H' h => by rw [h.2, List.length_map, List.length_map, List.length_take]; omega) (fun j zs H' _ h => SqT.of (h.1 _ _ hFA)) (fun j x zs H' hx h => ?_) (fun zs H' h => ?_)⟩
    · obtain ⟨r, hr, rr⟩ := Reps.mapGot rfx hx
      obtain ⟨RA, rfl, hRA⟩ := Rep.ofRow rr
      obtain ⟨r9, r4⟩ := rows j r hr
      refine ⟨trivial, fun _ => ⟨rfl, RA, rfl, ⟨_, SqT.of (h.1 _ _ hRA)⟩, walk_tup (xs := r.map V.int) (fun k ys H2 => Same H' H2 ∧ ys = ((r.take k).map nT).map V.str) (by rw [List.length_map]; omega) ⟨Same.refl _, rfl⟩ (fun k ys H2 h2 => by rw [h2.2, List.length_map, List.length_map, List.length_take]; omega) (fun k ys H2 _ h2 => SqT.of ((h.1.trans h2.1) _ _ hRA)) (fun k x ys H2 hx h2 => ?_) (fun ys H2 h2 => ?_)⟩, fun z => by cases z⟩
      · rw [List.getElem?_map] at hx
        obtain ⟨n, hn, rfl⟩ : ∃ n, r[k]? = some n ∧ V.int n = x := by
          cases z : r[k]? with
          | none => rw [z] at hx; cases hx
          | some n => rw [z] at hx; cases hx; exact ⟨n, rfl, rfl⟩
        obtain ⟨m0, m9⟩ := r9 n (List.mem_of_getElem? hn)
        refine ⟨trivial, fun _ => ⟨n, rfl, log_small (by omega), h2.1, ?_⟩, fun z => by cases z⟩
        rw [h2.2, take_next hn, List.map_append, List.map_append]; rfl
      · intro m hm
        have fit := join_fit (sep := " ") (l := r.map nT) (B := 11) (fun x hx => by
          obtain ⟨n, hn, rfl⟩ := List.mem_map.mp hx
          exact nT_len (r9 n hn).1 (r9 n hn).2) (by rw [List.length_map]; have e : (Str.ofString " ").length = 1 := by decide
                                                    rw [e]; omega)
        refine ⟨" ", m, r.map nT, rfl, rfl, ?_, fit.1, fit.2, h.1.trans (h2.1.trans (Same.new hm)), ?_⟩
        · rw [upd_same, h2.2, List.length_map, List.take_of_length_le (Nat.le_refl _)]
        · rw [h.2, take_next hr, List.map_append, List.map_append]; rfl
    · intro m hm
      have fit := join_fit (sep := "/") (l := F.map rowT) (B := 48) (fun x hx => by
        obtain ⟨r, hr, rfl⟩ := List.mem_map.mp hx
        obtain ⟨i, hi⟩ := List.getElem?_of_mem hr
        exact rowT_len (rows i r hi).1 (rows i r hi).2) (by rw [List.length_map]; have e : (Str.ofString "/").length = 1 := by decide
                                                            rw [e]; omega)
      refine ⟨"/", m, F.map rowT, rfl, rfl, ?_, fit.1, fit.2, q _ (h.1.trans (Same.new hm))⟩
      rw [upd_same, h.2, List.take_of_length_le (by omega)]
  · exact h.elim
theorem sc__law_row : FnScope ["_law_caps_here", "_law_part", "_law_words", "_law_row_here", "_law_word"] ["_law_caps_here", "_law_part"] (defScope s__law_row) := ⟨rfl, rfl, rfl, by decide +kernel, rfl, by decide +kernel, by decide +kernel⟩
theorem ok__law_row (F : Df K mg "_law_row" s__law_row ["_law_caps_here", "_law_part"]) (T : Tx mg)  : Fn P w K mg base 1 "_law_row" ["_law_caps_here", "_law_part"] sp__law_row := by
 refine F.fn sc__law_row (fun vs H Q E h => ?_) (fun f cdv A outer s H vs Q E hr h => ?_)
 ·unfold sp__law_row at h; split at h; rfl; exact h.elim
 refine ⟨_, (pss_cons (ps_par (i := 2) (j := 3) rfl sc__law_row.nd rfl rfl (by decide) rfl rfl (pb2 (pe_bmK K PySem.F.plainAttrs_str PySem.F.slot_str_split PySem.F.type_str_split mt_split (cy 1) (pb1 pe_str)) (c_lstG pa_nil)) (by rfl)) (pss_cons (ps_for PassesOwn.never rfl (piL K (cy 2)) (pgy 4 sc__law_row.nd) (pss_cons (c_if (c_cmpT (ninS K) (cy 4) (pe_comp ["_law_number"] [none] rfl (pi_range1 rfl T.b_range (pb1 pe_int)) (BlockScope.of rfl) (fun _ _ _ _ => (pgy 0 (nd_of (by rfl)))) (fun _ _ _ _ => pts_nil) (fun _ _ _ _ => (pe_callTy call_str_int rfl T.b_str boot_str' (pb1 (cy 0))))) (by with_unfolding_all rfl)) (pss_one (ps_ret pe_non)) pss_nil) (pss_one (ps_expr (pe_bm PySem.F.plainAttrs_list PySem.F.slot_list_append PySem.F.type_list_append mt_append (cy 3) (pb1 (pe_callTy call_intS rfl T.b_int L2.boot_int (pb1 (cy 4))))))))) (pss_cons (c_if (PW.pt (c_or (c_cmpT op_ne (pe_callB (lenS K) rfl T.b_len PySem.boot_len (pb1 (cy 3))) (pe_callB (lenS K) rfl T.b_len PySem.boot_len (pb1 (cy 0))) (nomark _)) (pw_or1 (c_cmpT (o_neL0 hr.units0) (pe_comp ["_law_one", "_law_cap"] [none, none] rfl (piZLT P w K rfl T.b_zip (pb2 (cy 3) (cy 0))) (BlockScope.of rfl) (fun _ _ _ _ => (pgT K (n := 2) (pgs_cons (pgy 0 (nd_of (by rfl))) (pgs_cons (pgy 1 (nd_of (by rfl))) pgs_nil)))) (fun _ _ _ _ => (pts_one (c_cmpT o_gt (cy 0) (cy 1) (nomark _)))) (fun _ _ _ _ => pe_int)) (c_lstG pa_nil) (nomark _))))) (pss_one (ps_ret pe_non)) pss_nil) (pss_one (ps_ret (pe_callTy (tupOf K) rfl T.b_tuple boot_tuple' (pb1 (cy 3)))))))), ?_⟩
 unfold sp__law_row at h
 split at h
 ·rename_i a t
  obtain ⟨cs, ha, l4, c9, hz, q1, q2⟩ := h
  refine ⟨rfl, t, " ", rfl, rfl, by decide, small_text hz, fun l hl => ?_⟩
  have lws0 := splitF_len t " "
  have n1 := Same.new (o := .lst ((splitF t " ").map V.str)) hl
  have kl : upd H l (.lst ((splitF t " ").map V.str)) l = some (.lst ((splitF t " ").map V.str)) := upd_same
  generalize upd H l (.lst ((splitF t " ").map V.str)) = H1 at n1 kl ⊢
  generalize splitF t " " = ws at q1 q2 kl lws0
  intro l2 H2 s2 hl2 k2
  have s02 := n1.trans s2
  have f2 : H l2 = none := n1.free hl2
  have ne : l ≠ l2 := fun z => by rw [z, hl2] at kl; cases kl
  have kl2 := s2 _ _ kl
  have ka2 := s02 _ _ ha
  refine ⟨.ref l, .ref l2, rfl, l, rfl, ⟨_, SqL.of kl2⟩, for_list (xs := ws.map V.str) (fun i σ H' => (∃ x4, σ = [some (.ref a), some (.str t), some (.ref l), some (.ref l2), x4]) ∧ Ev l2 H2 H' ∧ H' l2 = some (.lst (((ws.take i).map numV).map V.int)) ∧ ∀ w ∈ ws.take i, ∃ n : Nat, n < 10 ∧ w = nT (n : Int)) ⟨⟨_, rfl⟩, Ev.refl, k2, fun w hw => (by cases hw)⟩ (fun i σ H' _ h => SqL.of (h.2.1.lst kl2 ne)) (fun i x σ H' hx h => ?_) fun σ H' h => ?_⟩
  ·obtain ⟨⟨x4, rfl⟩, ev, kv, hd⟩ := h
   rw [List.getElem?_map] at hx
   obtain ⟨w0, hw0, rfl⟩ := Option.map_eq_some_iff.mp hx
   have hil : i < ws.length := (List.getElem?_eq_some_iff.mp hw0).1
   refine ⟨10, rfl, by decide, by decide, walk_range (n := 10) (fun i ys H3 => Same H' H3 ∧ ys = ((List.range i).map fun (n : Nat) => nT (n : Int)).map V.str) (by decide) ⟨Same.refl _, rfl⟩ (fun i ys H3 h => by rw [h.2, List.length_map, List.length_map, List.length_range]; exact Nat.le_refl _) (fun i ys H3 hi h => ?_) (fun ys H3 h => ?_)⟩
   ·refine ⟨trivial, fun _ => ⟨_, rfl, log_small (by omega), h.1, ?_⟩, fun z => by cases z⟩
    rw [h.2, List.range_succ, List.map_append, List.map_append, Int.zero_add]; rfl
   ·intro m hm
    have s4 := h.1.trans (Same.new (o := .lst ys) hm)
    have e4 := ev.trans (Ev.same (p := l2) s4)
    refine ⟨m, _, rfl, .inl (SqL.of upd_same), rfl, by rw [h.2]; exact flat_strs _, ⟨fun c => ?_, fun c => ?_⟩⟩
    ·refine q1 ?_ _ (Same.evOwn s02 f2 e4)
     unfold rowR
     refine if_neg fun z => ?_
     obtain ⟨n, hn, rfl, _⟩ := rowOk_word z c9 hw0
     have : numOk 9 (nT (n : Int)) = true := numOk_nT (by omega)
     have c' : (!inV (V.str (nT (n : Int))) ys) = true := c
     rw [h.2] at c'
     have e : (!numOk 9 (nT (n : Int))) = true := c'
     rw [this] at e; cases e
    ·have c' : (!inV (V.str w0) ys) = false := c
     rw [h.2] at c'
     have e : (!numOk 9 w0) = false := c'
     obtain ⟨n, hn, rfl⟩ := numOk_is (c := 9) (w := w0) (by revert e; cases numOk 9 w0 <;> simp)
     have kv4 := s4 _ _ kv
     refine ⟨.inl ⟨rfl, _, SqL.of kv4⟩, n, rfl, by omega, by omega, l2, _, _, rfl, rfl, kv4, ?_, ?_⟩
     ·rw [List.length_map, List.length_map, List.length_take]
      have : (200000 : Nat) + 2 < sizeLine := by decide
      omega
     ·refine ⟨⟨_, rfl⟩, e4.trans (Ev.pen kv4), ?_, fun w hw => ?_⟩
      ·rw [upd_same, take_next hw0, List.map_append, List.map_append, List.map_singleton, List.map_singleton, numV_nT n (by omega)]
      ·rcases take_mem hw0 hw with z | rfl
       ·exact hd w z
       ·exact ⟨n, by omega, rfl⟩
  ·obtain ⟨⟨x4, rfl⟩, ev, kv, hd⟩ := h
   rw [List.length_map, List.take_of_length_le (Nat.le_refl _)] at kv hd
   have sH' := Same.evOwn s02 f2 ev
   have ka := ev.tup ka2
   refine ⟨l2, _, rfl, .inl (SqL.of kv), a, _, rfl, .inr (SqT.of ka), rfl, ⟨fun c => ?_, fun c => ?_⟩⟩
   ·refine ⟨fun _ => q1 ?_ _ sH', fun z => (by cases z)⟩
    unfold rowR
    refine if_neg fun z => ?_
    have := rowOk_len z
    rw [List.length_map, List.length_map, List.length_map, this, decide_eq_true rfl] at c
    cases c
   ·have lw : ws.length = cs.length := by
     rw [List.length_map, List.length_map, List.length_map] at c
     have e := of_decide_eq_true (p := V.int (ws.length : Int) = V.int (cs.length : Int)) (by revert c; cases decide (V.int (ws.length : Int) = V.int (cs.length : Int)) <;> simp)
     injection e with e
     omega
    refine ⟨l2, a, rfl, ⟨_, SqL.of kv⟩, ⟨_, SqT.of ka⟩, walk_zip (xs := (ws.map numV).map V.int) (ys := cs.map V.int) (fun i zs H3 => Same H' H3 ∧ zs.length ≤ i ∧ (zs = [] ↔ ∀ (j : Nat) w c, j < i → ws[j]? = some w → cs[j]? = some c → numV w ≤ c)) (by simp only [List.length_map]; omega) (by simp only [List.length_map]; omega) ⟨Same.refl _, Nat.le_refl _, fun _ j w c hj => absurd hj (Nat.not_lt_zero _), fun _ => rfl⟩ (fun i zs H3 h => by exact h.2.1) (fun i zs H3 h => ⟨SqL.of (h.1 _ _ kv), SqT.of (h.1 _ _ ka)⟩) (fun i x y zs H3 T' hx hy h hT => ?_) (fun zs H3 h => ?_)⟩
    ·rw [List.getElem?_map, List.getElem?_map] at hx
     rw [List.getElem?_map] at hy
     obtain ⟨v0, hv0, rfl⟩ := Option.map_eq_some_iff.mp hx
     obtain ⟨w0, hw0, rfl⟩ := Option.map_eq_some_iff.mp hv0
     obtain ⟨c0, hc0, rfl⟩ := Option.map_eq_some_iff.mp hy
     have nT' := Same.new (o := .tup [V.int (numV w0), V.int c0]) hT
     refine ⟨T', _, rfl, SqT.of upd_same, rfl, _, _, rfl, _, _, rfl, rfl, trivial, ⟨fun cc => ⟨h.1.trans nT', by rw [List.length_append]; exact Nat.succ_le_succ h.2.1, ?_⟩, fun cc => ⟨h.1.trans nT', Nat.le_succ_of_le h.2.1, ?_⟩⟩⟩
     ·have c' := of_decide_eq_true cc
      refine ⟨fun z => absurd z (by simp), fun z => ?_⟩
      have := z i w0 c0 (Nat.lt_succ_self _) hw0 hc0
      omega
     ·have c' := of_decide_eq_false cc
      refine h.2.2.trans ⟨fun z j w c hj hw hc => ?_, fun z j w c hj => z j w c (Nat.lt_succ_of_lt hj)⟩
      rcases Nat.lt_succ_iff_lt_or_eq.mp hj with y | rfl
      ·exact z j w c y hw hc
      ·rw [hw0] at hw; cases hw
       rw [hc0] at hc; cases hc
       omega
    ·intro m hm l5 H5 s5 hl5 k5
     have s6 := h.1.trans ((Same.new (o := .lst zs) hm).trans s5)
     have hw := h.2.2
     rw [List.length_map, List.length_map] at hw
     refine ⟨m, l5, zs, rfl, rfl, s5 _ _ upd_same, k5, ⟨fun cc => ?_, fun cc => ?_⟩⟩
     ·refine q1 ?_ _ (sH'.trans s6)
      unfold rowR
      refine if_neg fun z => ?_
      have : zs = [] := hw.mpr fun j w c hj hw hc => by
       obtain ⟨n, _, _, e, c', hc', hn⟩ := rowOk_word z c9 hw
       rw [hc] at hc'; cases hc'
       omega
      rw [this] at cc; cases cc
     ·have z0 : zs = [] := by cases zs with | nil => rfl | cons _ _ => cases cc
      have ok : rowOk cs ws = true := rowOk_of lw fun i w c hw' hc => by
       obtain ⟨n, hn, rfl, e⟩ := digit_of hd hw'
       have := hw.mp z0 i _ c (List.getElem?_eq_some_iff.mp hw').1 hw' hc
       exact ⟨n, rfl, by omega⟩
      have s7 := sH'.trans s6
      refine ⟨l2, _, rfl, .inl ⟨SqL.of (s6 _ _ kv), fun b hb => ?_⟩⟩
      exact q2 (ws.map numV) b _ (if_pos ok) (s7.trans (Same.new hb)) upd_same
 ·exact h.elim
theorem sc__law_due : FnScope ["_law_caps_here", "_law_text_here", "_law_rows", "_law_at", "_law_part", "_law_row_here"] ["_law_caps_here", "_law_text_here"] (defScope s__law_due) := ⟨rfl, rfl, rfl, by decide +kernel, rfl, by decide +kernel, by decide +kernel⟩
theorem ok__law_due (F : Df K mg "_law_due" s__law_due ["_law_caps_here", "_law_text_here"]) (T : Tx mg) (D__law_row : Fn P w K mg base 1 "_law_row" ["_law_caps_here", "_law_part"] sp__law_row) : Fn P w K mg base 2 "_law_due" ["_law_caps_here", "_law_text_here"] sp__law_due := by
 refine F.fn sc__law_due (fun vs H Q E h => ?_) (fun f cdv A outer s H vs Q E hr h => ?_)
 ·unfold sp__law_due at h; split at h; rfl; exact h.elim
 refine ⟨_, (pss_cons (c_if (pt_not (c_val (pe_callB call_isi rfl T.b_isinstance boot_isinstance (pb2 (cy 1) (pe_bltn (v := .ty "str") rfl T.b_str boot_str' rfl))))) (pss_one (ps_ret (c_tupG (pb2 pe_str c_neg1)))) pss_nil) (pss_cons (ps_set (i := 2) sc__law_due.nd rfl (loc_of (by rfl)) (c_lstG pa_nil)) (pss_cons (ps_for PassesOwn.never rfl (piEL P w K rfl T.b_enumerate (pb1 (pe_bmK K PySem.F.plainAttrs_str PySem.F.slot_str_split PySem.F.type_str_split mt_split (cy 1) (pb1 pe_str)))) (pgT K (n := 2) (pgs_cons (pgy 3 sc__law_due.nd) (pgs_cons (pgy 4 sc__law_due.nd) pgs_nil))) (pss_cons (ps_set (i := 5) sc__law_due.nd rfl (loc_of (by rfl)) (c_ifE (c_cmpT o_ge (cy 3) (pe_callB (lenS K) rfl T.b_len PySem.boot_len (pb1 (cy 0))) (nomark _)) pe_non (c_call D__law_row (hr.mono (by decide)) rfl (pb2 (pe_ix (ixT K) (cy 0) (cy 3) (fun _ _ => rfl)) (cy 4))))) (pss_cons (c_if (c_cmpT op_isN (cy 5) pe_non (nomark _)) (pss_one (ps_ret (c_tupG (pb2 pe_str (cy 3))))) pss_nil) (pss_one (ps_expr (pe_bm PySem.F.plainAttrs_list PySem.F.slot_list_append PySem.F.type_list_append mt_append (cy 2) (pb1 (cy 5)))))))) (pss_one (ps_ret (c_ifE (c_cmpT op_eq (pe_callB (lenS K) rfl T.b_len PySem.boot_len (pb1 (cy 2))) (pe_callB (lenS K) rfl T.b_len PySem.boot_len (pb1 (cy 0))) (nomark _)) (c_tupG (pb2 pe_str (pe_callTy (tupOf K) rfl T.b_tuple boot_tuple' (pb1 (cy 2))))) (c_tupG (pb2 pe_str c_neg1)))))))), ?_⟩
 unfold sp__law_due at h
 split at h
 ·rename_i v x
  obtain ⟨p, C, d, ⟨c8, cr⟩, rv, rd, ht, q⟩ := h
  obtain ⟨CA, cx, rfl, hCA, rcx⟩ := Rep.firing rv
  have lcx := rcx.len
  rw [List.length_map] at lcx
  refine ⟨_, Rep.ty rd, .inr (.inr (.inr (.inr rfl))), ⟨fun c => ?_, fun c => ?_⟩⟩
  ·intro u H1 s1 k1
   refine q u H1 s1 ?_
   have : dueD C d = .tuple [.str "text", .int (-1)] := by cases d <;> first | rfl | cases c
   rw [this]
   exact Rep.tup k1 (.cons Rep.str (.cons Rep.int .nil))
  ·cases d <;> first | cases c | skip
   rename_i t
   have tl := ht t rfl
   unfold Rep at rd
   subst rd
   intro l2 H1 s1 hl2 k2
   refine ⟨rfl, t, "/", rfl, rfl, by decide, small_text tl, fun l hl => ?_⟩
   obtain ⟨ps, eps⟩ : ∃ ps, ps = splitF t "/" := ⟨_, rfl⟩
   have lps := splitF_len t "/"
   have tlp : ∀ w ∈ ps, w.length ≤ 200000 := fun w hw => Nat.le_trans (split_part (eps ▸ hw)) tl
   have rD : dueD C (.str t) = (match readF C ps with | .inl n => .tuple [.str "text", .int n] | .inr F => .tuple [.str "told", FD F]) := by rw [eps]; rfl
   rw [rD] at q
   have n1 := Same.new (o := .lst ((splitF t "/").map V.str)) hl
   have kl : upd H1 l (.lst ((splitF t "/").map V.str)) l = some (.lst ((splitF t "/").map V.str)) := upd_same
   have s2 := s1.trans n1
   have f2 : H l2 = none := hl2
   have ne : l ≠ l2 := fun z => by rw [z, k2] at hl; cases hl
   have k22 := n1 _ _ k2
   have hC2 := s2 _ _ hCA
   have rc2 := Reps.ev (Ev.same s2) _ _ rcx
   generalize upd H1 l (.lst ((splitF t "/").map V.str)) = H2 at n1 kl s2 hC2 rc2 k22 ⊢
   rw [← eps] at kl lps
   refine ⟨l, rfl, ⟨_, SqL.of kl⟩, for_enum (xs := ps.map V.str) (fun i σ H' => (∃ x3 x4 x5, σ = [some (.ref CA), some (.str t), some (.ref l2), x3, x4, x5]) ∧ Ev l2 H2 H' ∧ (∀ j, j < i → ∃ r, rowAt C ps j = some r) ∧ ∃ zs, H' l2 = some (.lst zs) ∧ Reps p H' ((List.range i).map fun j => rowD ((rowAt C ps j).getD [])) zs) ⟨⟨_, _, _, rfl⟩, Ev.refl, fun j hj => absurd hj (Nat.not_lt_zero _), [], k22, .nil⟩ (fun i σ H' h => SqL.of (h.2.1.lst kl ne)) (fun i x σ H' T hx h hT => ?_) fun σ H5 h => ?_⟩
   ·obtain ⟨⟨x3, x4, x5, rfl⟩, ev, hj, zs, kz, rz⟩ := h
    rw [List.getElem?_map] at hx
    obtain ⟨w0, hw0, rfl⟩ := Option.map_eq_some_iff.mp hx
    have nT' := Same.new (o := .tup [V.int (i : Int), V.str w0]) hT
    have hil : i < ps.length := (List.getElem?_eq_some_iff.mp hw0).1
    have eT := ev.trans (Ev.same nT')
    have kzT := nT' _ _ kz
    have rzT := Reps.ev (Ev.same nT') _ _ rz
    have wat : ps.getD i Str.empty = w0 := by rw [List.getD_eq_getElem?_getD, hw0]; rfl
    have hile : i ≤ C.length := by
     by_cases z : i = 0
     ·omega
     ·obtain ⟨r, hr⟩ := hj (i - 1) (by omega)
      have := (rowAt_is hr).1
      omega
    have lz := rz.len
    rw [List.length_map, List.length_range] at lz
    have bad : rowAt C ps i = none → ∀ H6 : Hp, Same H H6 → Got H6 [.str "text", .int (i : Int)] Q := fun hb H6 s6 => by
     intro u H7 s7 k7
     refine q u H7 (s6.trans s7) ?_
     have : readF C ps = .inl (i : Nat) := by
      unfold readF
      rw [find_first hil (fun j hj' => by obtain ⟨r, hr⟩ := hj j hj'; rw [hr]; rfl) (by rw [hb]; rfl)]
     rw [this]
     exact Rep.tup k7 (.cons Rep.str (.cons Rep.int .nil))
    refine ⟨T, _, rfl, SqT.of upd_same, rfl, _, _, rfl, _, _, rfl, rfl, ?_⟩
    refine ⟨CA, cx, rfl, .inr (SqT.of (eT.tup hC2)), ⟨fun c => ?_, fun c => ?_⟩⟩
    ·have c' := of_decide_eq_true c
     refine ⟨rfl, ⟨fun _ => bad ?_ _ (Same.evOwn s2 f2 eT), fun z => (by cases z)⟩⟩
     unfold rowAt
     rw [if_neg (by omega)]
    ·have c' := of_decide_eq_false c
     have hic : i < C.length := by omega
     have hCi : C[i]? = some (C.getD i []) := by rw [List.getD_eq_getElem?_getD, List.getElem?_eq_getElem hic]; rfl
     obtain ⟨y, hy, ry⟩ := rc2.get (i := i) (d := rowD (C.getD i [])) (by rw [List.getElem?_map, hCi]; rfl)
     obtain ⟨RA, rfl, hRA⟩ := Rep.ofRow ry
     obtain ⟨r4, r9⟩ := cr _ (List.mem_of_getElem? hCi)
     have rowE : rowAt C ps i = rowR (C.getD i []) (splitF w0 " ") := by
      unfold rowAt
      rw [if_pos hic, wat]
     refine ⟨CA, cx, _, _, rfl, rfl, SqT.of (eT.tup hC2), atI_nat hy, C.getD i [], eT.tup hRA, r4, r9, tlp w0 (List.mem_of_getElem? hw0), fun hn H6 s6 => ?_, fun r b H6 hr s6 kb => ?_⟩
     ·exact ⟨rfl, ⟨fun _ => bad (rowE.trans hn) _ (Same.evOwn s2 f2 (eT.trans (Ev.same s6))), fun z => (by cases z)⟩⟩
     ·have kz6 := s6 _ _ kzT
      refine ⟨rfl, ⟨fun z => (by cases z), fun _ => ?_⟩⟩
      refine ⟨.inl ⟨rfl, _, SqL.of kz6⟩, l2, _, _, rfl, rfl, kz6, ?_, ?_⟩
      ·have : (200000 : Nat) < sizeLine := by decide
       omega
      ·refine ⟨⟨_, _, _, rfl⟩, (eT.trans (Ev.same s6)).trans (Ev.pen kz6), fun j hj' => ?_, _, upd_same, ?_⟩
       ·rcases Nat.lt_succ_iff_lt_or_eq.mp hj' with z | rfl
        ·exact hj j z
        ·exact ⟨r, rowE.trans hr⟩
       ·have tv : TEv H6 (upd H6 l2 (.lst (zs ++ [.ref b]))) := TEv.upd kz6
        rw [List.range_succ, List.map_append, List.map_singleton]
        refine Reps.append (Reps.tev tv _ _ (noMuts_all fun d hd => by
         obtain ⟨j, _, rfl⟩ := List.mem_map.mp hd
         exact noMut_row _) (Reps.ev (Ev.same s6) _ _ rzT)) (.cons (Rep.tup (tv _ _ kb) ?_) .nil)
        rw [rowE, hr]
        exact Reps.ofInts
   ·obtain ⟨⟨x3, x4, x5, rfl⟩, ev, hj, zs, kz, rz⟩ := h
    rw [List.length_map] at hj rz
    have sH := Same.evOwn s2 f2 ev
    have lz := rz.len
    rw [List.length_map, List.length_range] at lz
    have all : (List.range ps.length).find? (fun i => (rowAt C ps i).isNone) = none := find_none fun j hj' => by obtain ⟨r, hr⟩ := hj j hj'; rw [hr]; rfl
    have lle : ps.length ≤ C.length := by
     by_cases z : ps.length = 0
     ·omega
     ·obtain ⟨r, hr⟩ := hj (ps.length - 1) (by omega)
      have := (rowAt_is hr).1
      omega
    refine ⟨l2, _, rfl, .inl (SqL.of kz), CA, cx, rfl, .inr (SqT.of (ev.tup hC2)), rfl, ⟨fun c => ?_, fun c => ?_⟩⟩
    ·have e := of_decide_eq_true (p := V.int (zs.length : Int) = V.int (cx.length : Int)) c
     injection e with e
     have rF : readF C ps = .inr ((List.range ps.length).map fun i => (rowAt C ps i).getD []) := by
      unfold readF
      rw [all]
      exact if_neg (by omega)
     refine ⟨l2, zs, rfl, .inl ⟨SqL.of kz, fun b hb => ?_⟩⟩
     intro u H7 s7 k7
     have s8 := (Same.new (o := .tup zs) hb).trans s7
     refine q u H7 (sH.trans s8) ?_
     rw [rF]
     refine Rep.tup k7 (.cons Rep.str (.cons (Rep.tup (s7 _ _ upd_same) ?_) .nil))
     rw [List.map_map]
     exact Reps.ev (Ev.same s8) _ _ rz
    ·intro u H7 s7 k7
     refine q u H7 (sH.trans s7) ?_
     have rF : readF C ps = .inl (-1) := by
      unfold readF
      rw [all]
      refine if_pos (Nat.lt_of_le_of_ne lle fun z => ?_)
      rw [← lz, ← lcx, z, decide_eq_true rfl] at c
      cases c
     rw [rF]
     exact Rep.tup k7 (.cons Rep.str (.cons Rep.int .nil))
 ·exact h.elim
theorem sc__law_bent : FnScope ["_law_pen_here", "_law_text_here", "_law_signs", "_law_at", "_law_sign", "_law_near", "_law_rows"] ["_law_pen_here", "_law_text_here"] (defScope s__law_bent) := ⟨rfl, rfl, rfl, by decide +kernel, rfl, by decide +kernel, by decide +kernel⟩
theorem ok__law_bent (F : Df K mg "_law_bent" s__law_bent ["_law_pen_here", "_law_text_here"]) (T : Tx mg) (D__law_draw : Fn P w K mg base 1 "_law_draw" ["_law_pen_here", "_law_many"] sp__law_draw) : Fn P w K mg base 2 "_law_bent" ["_law_pen_here", "_law_text_here"] sp__law_bent := by
 refine F.fn sc__law_bent (fun vs H Q E h => ?_) (fun f cdv A outer s H vs Q E hr h => ?_)
 ·unfold sp__law_bent at h; split at h; rfl; exact h.elim
 refine ⟨_, (@pss_cons _ _ _ _ _ (@ps_set _ _ (2) _ _ _ _ sc__law_bent.nd rfl (loc_of (by rfl)) (@pe_str _ _ _ _) (by rfl) (fl_of (by rfl))) (@pss_cons _ _ _ _ _ (@ps_par _ _ (3) (4) _ _ _ _ _ _ _ _ _ _ _ rfl sc__law_bent.nd rfl rfl (by decide) rfl rfl (@pa2 _ _ _ _ _ (@c_call _ _ _ _ _ _ _ _ _ _ D__law_draw (hr.mono (by decide)) rfl (@pa2 _ _ _ _ _ (@cx _ 0 _ _ (by rfl)) (@pe_op _ _ _ _ _ _ _ _ (@o_add _) (@pe_callB _ _ _ _ _ _ _ _ _ (@call_len_str _) rfl T.b_len PySem.boot_len (@pa1 _ _ _ (@cx _ 1 _ _ (by rfl)) (by rfl)) (by decide) (by decide) (by rfl) (by rfl)) (@pe_int _ _ _ _)) (by rfl)) (by decide) (by rfl) (by rfl)) (@pe_ix _ _ _ _ _ _ _ (@ix_str _) (@cx _ 2 _ _ (by rfl)) (@c_call _ _ _ _ _ _ _ _ _ _ D__law_draw (hr.mono (by decide)) rfl (@pa2 _ _ _ _ _ (@cx _ 0 _ _ (by rfl)) (@pe_callB _ _ _ _ _ _ _ _ _ (@call_len_str _) rfl T.b_len PySem.boot_len (@pa1 _ _ _ (@cx _ 2 _ _ (by rfl)) (by rfl)) (by decide) (by decide) (by rfl) (by rfl)) (by rfl)) (by decide) (by rfl) (by rfl)) (fun _ _ => rfl)) (by rfl)) (by rfl) (by rfl)) (@pss_cons _ _ _ _ _ (@ps_set _ _ (5) _ _ _ _ sc__law_bent.nd rfl (loc_of (by rfl)) (@pe_ix _ _ _ _ _ _ _ (@ixL _ K (by rfl)) (@c_lstG _ _ _ _ (@pa_cons _ _ _ _ _ (@pe_str _ _ _ _) (@pa_cons _ _ _ _ _ (@pe_str _ _ _ _) (@pa_cons _ _ _ _ _ (@pe_str _ _ _ _) (@pa_cons _ _ _ _ _ (@pe_str _ _ _ _) (@pa4 _ _ _ _ _ _ _ _ _ (@pe_str _ _ _ _) (@pe_str _ _ _ _) (@pe_str _ _ _ _) (@pe_str _ _ _ _) (by rfl)) (by rfl)) (by rfl)) (by rfl)) (by rfl))) (@c_call _ _ _ _ _ _ _ _ _ _ D__law_draw (hr.mono (by decide)) rfl (@pa2 _ _ _ _ _ (@cx _ 0 _ _ (by rfl)) (@pe_int _ _ _ _) (by rfl)) (by decide) (by rfl) (by rfl)) (fun _ _ => rfl)) (by rfl) (fl_of (by rfl))) (@pss_cons _ _ _ _ _ (@ps_set _ _ (6) _ _ _ _ sc__law_bent.nd rfl (loc_of (by rfl)) (@c_lstG _ _ _ _ (@pa4 _ _ _ _ _ _ _ _ _ (@pe_op _ _ _ _ _ _ _ _ (@op_add_str _) (@pe_op _ _ _ _ _ _ _ _ (@op_add_str _) (@pe_slice _ _ _ _ _ _ _ _ _ _ s_str (@cx _ 1 _ _ (by rfl)) (@po_none _) (@po_some _ _ _ (@cx _ 3 _ _ (by rfl)))) (@cx _ 4 _ _ (by rfl))) (@pe_slice _ _ _ _ _ _ _ _ _ _ s_str (@cx _ 1 _ _ (by rfl)) (@po_some _ _ _ (@cx _ 3 _ _ (by rfl))) (@po_none _))) (@pe_op _ _ _ _ _ _ _ _ (@op_add_str _) (@pe_op _ _ _ _ _ _ _ _ (@op_add_str _) (@pe_slice _ _ _ _ _ _ _ _ _ _ s_str (@cx _ 1 _ _ (by rfl)) (@po_none _) (@po_some _ _ _ (@cx _ 3 _ _ (by rfl)))) (@cx _ 4 _ _ (by rfl))) (@pe_slice _ _ _ _ _ _ _ _ _ _ s_str (@cx _ 1 _ _ (by rfl)) (@po_some _ _ _ (@pe_op _ _ _ _ _ _ _ _ (@o_add _) (@cx _ 3 _ _ (by rfl)) (@pe_int _ _ _ _))) (@po_none _))) (@pe_op _ _ _ _ _ _ _ _ (@op_add_str _) (@pe_slice _ _ _ _ _ _ _ _ _ _ s_str (@cx _ 1 _ _ (by rfl)) (@po_none _) (@po_some _ _ _ (@cx _ 3 _ _ (by rfl)))) (@pe_slice _ _ _ _ _ _ _ _ _ _ s_str (@cx _ 1 _ _ (by rfl)) (@po_some _ _ _ (@pe_op _ _ _ _ _ _ _ _ (@o_add _) (@cx _ 3 _ _ (by rfl)) (@pe_int _ _ _ _))) (@po_none _))) (@pe_slice _ _ _ _ _ _ _ _ _ _ s_str (@cx _ 1 _ _ (by rfl)) (@po_none _) (@po_some _ _ _ (@cx _ 3 _ _ (by rfl)))) (by rfl))) (by rfl) (fl_of (by rfl))) (@pss_one _ _ _ (@ps_ret _ _ _ _ (@pe_ix _ _ _ _ _ _ _ (@ixL _ K (by rfl)) (@pe_op _ _ _ _ _ _ _ _ (@op_catG _) (@cx _ 6 _ _ (by rfl)) (@c_lstG _ _ _ _ (@pa3 _ _ _ _ _ _ _ (@pe_op _ _ _ _ _ _ _ _ (@op_add_str _) (@pe_op _ _ _ _ _ _ _ _ (@op_add_str _) (@pe_slice _ _ _ _ _ _ _ _ _ _ s_str (@cx _ 1 _ _ (by rfl)) (@po_none _) (@po_some _ _ _ (@cx _ 3 _ _ (by rfl)))) (@cx _ 5 _ _ (by rfl))) (@pe_slice _ _ _ _ _ _ _ _ _ _ s_str (@cx _ 1 _ _ (by rfl)) (@po_some _ _ _ (@cx _ 3 _ _ (by rfl))) (@po_none _))) (@pe_op _ _ _ _ _ _ _ _ (@op_add_str _) (@pe_op _ _ _ _ _ _ _ _ (@op_add_str _) (@pe_slice _ _ _ _ _ _ _ _ _ _ s_str (@cx _ 1 _ _ (by rfl)) (@po_none _) (@po_some _ _ _ (@cx _ 3 _ _ (by rfl)))) (@cx _ 5 _ _ (by rfl))) (@pe_slice _ _ _ _ _ _ _ _ _ _ s_str (@cx _ 1 _ _ (by rfl)) (@po_some _ _ _ (@pe_op _ _ _ _ _ _ _ _ (@o_add _) (@cx _ 3 _ _ (by rfl)) (@pe_int _ _ _ _))) (@po_none _))) (@pe_op _ _ _ _ _ _ _ _ (@op_add_str _) (@cx _ 1 _ _ (by rfl)) (@cx _ 4 _ _ (by rfl))) (by rfl)))) (@c_call _ _ _ _ _ _ _ _ _ _ D__law_draw (hr.mono (by decide)) rfl (@pa2 _ _ _ _ _ (@cx _ 0 _ _ (by rfl)) (@pe_int _ _ _ _) (by rfl)) (by decide) (by rfl) (by rfl)) (fun _ _ => rfl)))))))), ?_⟩
 unfold sp__law_bent at h
 split at h
 ·rename_i p t
  obtain ⟨pn, ht, q⟩ := h
  generalize hZ : Str.ofString " !\"#$&'()*+,-./0123456789:;<=>?@ABCDEFGHIJKLMNOPQRSTUVWXYZ[\\]^_`abcdefghijklmnopqrstuvwxyz{|}~\t\n" = Z
  obtain ⟨z1, z2⟩ : 1 ≤ Z.length ∧ Z.length ≤ 900 := by rw [← hZ]; decide +kernel
  have sl : 3000 ≤ sizeLine := by decide
  have tz : t.length ≤ sizeLine := by omega
  refine ⟨t, rfl, tz, pn, by omega, by omega, fun g H1 g0 g1 e1 pn1 => ?_⟩
  refine ⟨Z, rfl, by omega, pn1, by omega, by omega, fun g2 H2 g20 g21 e2 pn2 => ?_⟩
  obtain ⟨c, hc⟩ := pickC (z := Z) g20 g21
  refine ⟨Z, g2, c, rfl, rfl, by omega, hc, _, _, rfl, ?_⟩
  obtain ⟨sg, es⟩ : ∃ sg, sg = (⟨#[c]⟩ : Str) := ⟨_, rfl⟩
  rw [← es]
  have lsg : sg.length ≤ 3 := by rw [es]; show 1 ≤ 3; decide
  intro l1 H3 s3 hl1 k1
  refine ⟨pn2.same s3, by decide, by decide, fun g3 H4 g30 g31 e4 pn4 => ?_⟩
  obtain ⟨nr, hnr, anr⟩ := pickS (ss := [" ", "0", "1", "9", "/", "00", "10", " / "]) g30 g31
  have lnr : nr.length ≤ 3 := (by decide : ∀ s ∈ ([" ", "0", "1", "9", "/", "00", "10", " / "] : List Str), s.length ≤ 3) nr hnr
  have nl1 : l1 ≠ p := pn2.ne hl1
  refine ⟨l1, _, g3, .str nr, rfl, rfl, SqL.of (e4.lst k1 nl1), anr, ?_⟩
  have L3 : ∀ (s : Str) (k : Int), s.length ≤ 3 → (sliceS t none (some g)).length + s.length ≤ sizeLine ∧ (sliceS t none (some g) ++ s).length + (sliceS t (some k) none).length ≤ sizeLine ∧ (sliceS t none (some g) ++ s ++ sliceS t (some k) none).length ≤ 3000 := fun s k hs => len3 (sliceS_len t none (some g)) hs (sliceS_len t (some k) none) (by omega)
  have L2 := len2 (sliceS_len t none (some g)) (sliceS_len t (some (g + 1)) none) (by omega)
  have L1 := len2 (Nat.le_refl t.length) lsg (by omega)
  refine ⟨g, rfl, t, rfl, tz, sliceS_len t none (some g), _, _, rfl, rfl, (L3 sg (g) lsg).1, g, rfl, t, rfl, tz, sliceS_len t (some (g)) none, _, _, rfl, rfl, (L3 sg (g) lsg).2.1, g, rfl, t, rfl, tz, sliceS_len t none (some g), _, _, rfl, rfl, (L3 sg (g + 1) lsg).1, g + 1, rfl, t, rfl, tz, sliceS_len t (some (g + 1)) none, _, _, rfl, rfl, (L3 sg (g + 1) lsg).2.1, g, rfl, t, rfl, tz, sliceS_len t none (some g), g + 1, rfl, t, rfl, tz, sliceS_len t (some (g + 1)) none, _, _, rfl, rfl, L2.1, g, rfl, t, rfl, tz, sliceS_len t none (some g), fun l2 H5 s5 hl2 k2 => ?_⟩
  refine ⟨g, rfl, t, rfl, tz, sliceS_len t none (some g), _, _, rfl, rfl, (L3 nr (g) lnr).1, g, rfl, t, rfl, tz, sliceS_len t (some (g)) none, _, _, rfl, rfl, (L3 nr (g) lnr).2.1, g, rfl, t, rfl, tz, sliceS_len t none (some g), _, _, rfl, rfl, (L3 nr (g + 1) lnr).1, g + 1, rfl, t, rfl, tz, sliceS_len t (some (g + 1)) none, _, _, rfl, rfl, (L3 nr (g + 1) lnr).2.1, _, _, rfl, rfl, L1.1, fun l3 H6 s6 hl3 k3 => ?_⟩
  refine ⟨l2, l3, _, _, rfl, rfl, s6 _ _ k2, k3, big_list (show 4 + 3 ≤ 1000 from by decide), fun L H7 s7 hL kL => ?_⟩
  refine ⟨pn4.same (s5.trans (s6.trans s7)), by decide, by decide, fun g4 H8 g40 g41 e8 pn8 => ?_⟩
  obtain ⟨s, hs, as⟩ := pickS (ss := [sliceS t none (some g) ++ sg ++ sliceS t (some g) none, sliceS t none (some g) ++ sg ++ sliceS t (some (g + 1)) none, sliceS t none (some g) ++ sliceS t (some (g + 1)) none, sliceS t none (some g), sliceS t none (some g) ++ nr ++ sliceS t (some g) none, sliceS t none (some g) ++ nr ++ sliceS t (some (g + 1)) none, t ++ sg]) g40 g41
  have nL : L ≠ p := (pn4.same (s5.trans s6)).ne hL
  refine ⟨L, _, g4, .str s, rfl, rfl, SqL.of (e8.lst kL nL), as, q s H8 ?_ ?_ pn8⟩
  ·have l0 := sliceS_len t none (some g)
   simp only [List.mem_cons, List.not_mem_nil, or_false] at hs
   rcases hs with rfl | rfl | rfl | rfl | rfl | rfl | rfl
   ·exact (L3 sg g lsg).2.2
   ·exact (L3 sg (g + 1) lsg).2.2
   ·exact L2.2
   ·omega
   ·exact (L3 nr g lnr).2.2
   ·exact (L3 nr (g + 1) lnr).2.2
   ·exact L1.2
  ·exact e1.trans (e2.trans ((Ev.same s3).trans (e4.trans ((Ev.same (s5.trans (s6.trans s7))).trans e8))))
 ·exact h.elim
theorem sc__law_texts : FnScope ["_law_pen_here", "_law_firing_here", "_law_caps_here", "_law_text_here", "_law_full", "_law_parts", "_law_some"] ["_law_pen_here", "_law_firing_here", "_law_caps_here"] (defScope s__law_texts) := ⟨rfl, rfl, rfl, by decide +kernel, rfl, by decide +kernel, by decide +kernel⟩
theorem ok__law_texts (F : Df K mg "_law_texts" s__law_texts ["_law_pen_here", "_law_firing_here", "_law_caps_here"]) (T : Tx mg) (D__law_bent : Fn P w K mg base 2 "_law_bent" ["_law_pen_here", "_law_text_here"] sp__law_bent) (D__law_text : Fn P w K mg base 1 "_law_text" ["_law_firing_here"] sp__law_text) : Fn P w K mg base 3 "_law_texts" ["_law_pen_here", "_law_firing_here", "_law_caps_here"] sp__law_texts := by
 refine F.fn sc__law_texts (fun vs H Q E h => ?_) (fun f cdv A outer s H vs Q E hr h => ?_)
 ·unfold sp__law_texts at h; split at h; rfl; exact h.elim
 refine ⟨_, (@pss_cons _ _ _ _ _ (@ps_asg _ _ _ _ _ _ (@c_tupG _ _ _ _ _ (@pa2 _ _ _ _ _ (@c_call _ _ _ _ _ _ _ _ _ _ D__law_text (hr.mono (by decide)) rfl (@pa1 _ _ _ (@cx _ 1 _ _ (by rfl)) (by rfl)) (by decide) (by rfl) (by rfl)) (@c_call _ _ _ _ _ _ _ _ _ _ D__law_text (hr.mono (by decide)) rfl (@pa1 _ _ _ (@cx _ 2 _ _ (by rfl)) (by rfl)) (by decide) (by rfl) (by rfl)) (by rfl))) (@pgT _ K _ _ _ (2) _ (@pgs_cons _ _ _ _ _ (@pgx _ _ _ 3 sc__law_texts.nd (by rfl)) (@pgs_cons _ _ _ _ _ (@pgx _ _ _ 4 sc__law_texts.nd (by rfl)) (@pgs_nil _) (by rfl)) (by rfl)) (by rfl) (by rfl) (by rfl) (by rfl)) (by rfl) (by rfl) (by rfl)) (@pss_cons _ _ _ _ _ (@ps_set _ _ (5) _ _ _ _ sc__law_texts.nd rfl (loc_of (by rfl)) (@pe_bmK K _ _ _ _ _ _ _ _ _ _ _ _ PySem.F.plainAttrs_str PySem.F.slot_str_split PySem.F.type_str_split mt_split (@cx _ 3 _ _ (by rfl)) (@pa1 _ _ _ (@pe_str _ _ _ _) (by rfl)) (by rfl) (by rfl) (by rfl) (by rfl) (by rfl) (by rfl)) (by rfl) (fl_of (by rfl))) (@pss_cons _ _ _ _ _ (@ps_set _ _ (6) _ _ _ _ sc__law_texts.nd rfl (loc_of (by rfl)) (@c_lstG _ _ _ _ (@pa_cons _ _ _ _ _ (@cx _ 3 _ _ (by rfl)) (@pa_cons _ _ _ _ _ (@cx _ 4 _ _ (by rfl)) (@pa_cons _ _ _ _ _ (@pe_bmK K _ _ _ _ _ _ _ _ _ _ _ _ PySem.F.plainAttrs_str PySem.F.slot_str_join PySem.F.type_str_join mt_join (@pe_str _ _ _ _) (@pa1 _ _ _ (@pe_slice _ _ _ _ _ _ _ _ _ _ (@slL _ K (by rfl)) (@cx _ 5 _ _ (by rfl)) (@po_some _ _ _ (@pe_int _ _ _ _)) (@po_none _)) (by rfl)) (by rfl) (by rfl) (by rfl) (by rfl) (by rfl) (by rfl)) (@pa_cons _ _ _ _ _ (@pe_bmK K _ _ _ _ _ _ _ _ _ _ _ _ PySem.F.plainAttrs_str PySem.F.slot_str_join PySem.F.type_str_join mt_join (@pe_str _ _ _ _) (@pa1 _ _ _ (@pe_op _ _ _ _ _ _ _ _ (@op_catG _) (@cx _ 5 _ _ (by rfl)) (@pe_slice _ _ _ _ _ _ _ _ _ _ (@slL _ K (by rfl)) (@cx _ 5 _ _ (by rfl)) (@po_none _) (@po_some _ _ _ (@pe_int _ _ _ _)))) (by rfl)) (by rfl) (by rfl) (by rfl) (by rfl) (by rfl) (by rfl)) (@pa_cons _ _ _ _ _ (@pe_bmK K _ _ _ _ _ _ _ _ _ _ _ _ PySem.F.plainAttrs_str PySem.F.slot_str_join PySem.F.type_str_join mt_join (@pe_str _ _ _ _) (@pa1 _ _ _ (@c_revL _ _ _ _ _ _ (@cx _ 5 _ _ (by rfl)) c_neg1) (by rfl)) (by rfl) (by rfl) (by rfl) (by rfl) (by rfl) (by rfl)) (@pa4 _ _ _ _ _ _ _ _ _ (@pe_str _ _ _ _) (@pe_str _ _ _ _) (@pe_str _ _ _ _) (@pe_str _ _ _ _) (by rfl)) (by rfl)) (by rfl)) (by rfl)) (by rfl)) (by rfl))) (by rfl) (fl_of (by rfl))) (@pss_cons _ _ _ _ _ (@ps_set _ _ (6) _ _ _ _ sc__law_texts.nd rfl (loc_of (by rfl)) (@pe_op _ _ _ _ _ _ _ _ (@op_catG _) (@cx _ 6 _ _ (by rfl)) (@c_lstG _ _ _ _ (@pa_cons _ _ _ _ _ (@pe_op _ _ _ _ _ _ _ _ (@op_add_str _) (@cx _ 3 _ _ (by rfl)) (@pe_str _ _ _ _)) (@pa4 _ _ _ _ _ _ _ _ _ (@pe_op _ _ _ _ _ _ _ _ (@op_add_str _) (@pe_str _ _ _ _) (@cx _ 3 _ _ (by rfl))) (@pe_op _ _ _ _ _ _ _ _ (@op_add_str _) (@cx _ 3 _ _ (by rfl)) (@pe_str _ _ _ _)) (@c_call _ _ _ _ _ _ _ _ _ _ D__law_text (hr.mono (by decide)) rfl (@pa1 _ _ _ (@pe_slice _ _ _ _ _ _ _ _ _ _ (@s_tup _) (@cx _ 1 _ _ (by rfl)) (@po_none _) (@po_some _ _ _ (@pe_int _ _ _ _))) (by rfl)) (by decide) (by rfl) (by rfl)) (@pe_bmK K _ _ _ _ _ _ _ _ _ _ _ _ PySem.F.plainAttrs_str PySem.F.slot_str_join PySem.F.type_str_join mt_join (@pe_str _ _ _ _) (@pa1 _ _ _ (@pe_op _ _ _ _ _ _ _ _ (@op_catG _) (@cx _ 5 _ _ (by rfl)) (@c_lstG _ _ _ _ (@pa1 _ _ _ (@pe_str _ _ _ _) (by rfl)))) (by rfl)) (by rfl) (by rfl) (by rfl) (by rfl) (by rfl) (by rfl)) (by rfl)) (by rfl)))) (by rfl) (fl_of (by rfl))) (@pss_one _ _ _ (@ps_ret _ _ _ _ (@pe_op _ _ _ _ _ _ _ _ (@op_catG _) (@pe_op _ _ _ _ _ _ _ _ (@op_catG _) (@cx _ 6 _ _ (by rfl)) (@pe_comp _ _ _ _ _ _ _ _ _ _ _ ["_law_turn", "_law_pen_here", "_law_text_here"] [none, some 0, some 3] rfl (@pi_range1 _ _ _ _ _ _ rfl T.b_range (@pa1 _ _ _ (@pe_int _ _ _ _) (by rfl)) (by rfl)) (BlockScope.of rfl) (fun _ _ _ _ => (@pgx _ _ _ 0 (nd_of (by rfl)) (by rfl))) (fun _ _ _ _ => (@pts_nil _)) (fun _ _ _ _ => (@c_call _ _ _ _ _ _ _ _ _ _ D__law_bent (hr.mono (by decide)) rfl (@pa2 _ _ _ _ _ (@cx _ 1 _ _ (by rfl)) (@cx _ 2 _ _ (by rfl)) (by rfl)) (by decide) (by rfl) (by rfl))) (by intro _; rfl))) (@pe_comp _ _ _ _ _ _ _ _ _ _ _ ["_law_turn", "_law_pen_here", "_law_full"] [none, some 0, some 4] rfl (@pi_range1 _ _ _ _ _ _ rfl T.b_range (@pa1 _ _ _ (@pe_int _ _ _ _) (by rfl)) (by rfl)) (BlockScope.of rfl) (fun _ _ _ _ => (@pgx _ _ _ 0 (nd_of (by rfl)) (by rfl))) (fun _ _ _ _ => (@pts_nil _)) (fun _ _ _ _ => (@c_call _ _ _ _ _ _ _ _ _ _ D__law_bent (hr.mono (by decide)) rfl (@pa2 _ _ _ _ _ (@cx _ 1 _ _ (by rfl)) (@cx _ 2 _ _ (by rfl)) (by rfl)) (by decide) (by rfl) (by rfl))) (by intro _; rfl))))))))), ?_⟩
 unfold sp__law_texts at h
 split at h
 ·rename_i p x y
  obtain ⟨pn, F, C, fF, fC, rx, ry, q⟩ := h
  have slL : (200000 : Nat) + 2 ≤ sizeLine := by decide
  have lF := fireT_len fF
  have lC := fireT_len fC
  refine ⟨p, F, fF, rx, fun H1 s1 => ⟨p, C, fC, Rep.ev (Ev.same s1) _ _ ry, fun H2 s2 => fun u H3 s3 k3 => ⟨u, _, rfl, SqT.of k3, rfl, _, _, rfl, _, _, rfl, rfl, ?_⟩⟩⟩
  obtain ⟨T1, e1⟩ : ∃ T1, T1 = fireT F := ⟨_, rfl⟩
  obtain ⟨T2, e2⟩ : ∃ T2, T2 = fireT C := ⟨_, rfl⟩
  rw [← e1] at lF ⊢
  rw [← e2] at lC ⊢
  have s03 := s1.trans (s2.trans s3)
  refine ⟨rfl, T1, "/", rfl, rfl, by decide, small_text (by omega), fun l hl => ?_⟩
  have lps := splitF_len T1 "/"
  have pB : ∀ w ∈ splitF T1 "/", w.length ≤ 392 := fun w hw => Nat.le_trans (split_part hw) lF
  have n4 := Same.new (o := .lst ((splitF T1 "/").map V.str)) hl
  have kl : upd H3 l (.lst ((splitF T1 "/").map V.str)) l = some (.lst ((splitF T1 "/").map V.str)) := upd_same
  have s04 := s03.trans n4
  generalize upd H3 l (.lst ((splitF T1 "/").map V.str)) = H4 at n4 kl s04 ⊢
  have stP : StL 392 ((splitF T1 "/").map V.str) := StL.of pB
  have lP : ((splitF T1 "/").map V.str).length ≤ 394 := by rw [List.length_map]; omega
  generalize (splitF T1 "/").map V.str = P at kl stP lP
  have jo : ∀ xs : List V, StL 392 xs → xs.length ≤ 500 → ∃ ss : List Str, xs = ss.map V.str ∧ Builtin.Str.tooLong (ss.toArray.foldl (· + ·.length + (Str.ofString "/").length) 0) = false ∧ (joinF "/" ss).length ≤ sizeLine ∧ (joinF "/" ss).length ≤ 200000 := fun xs hx hl => by
   obtain ⟨ss, rfl, h1, h2⟩ := hx.strs
   exact ⟨ss, rfl, jfit h1 (by omega)⟩
  obtain ⟨A1, ea1, ja1, jb1, jc1⟩ := jo (cutV P (some 1) none) (stP.sub fun v hv => cut_memS hv) (by have := cutV_length P (some 1) none; omega)
  refine ⟨rfl, 1, rfl, l, P, rfl, SqL.of kl, fun b1 hb1 => ⟨"/", b1, A1, rfl, rfl, by rw [upd_same, ea1], ja1, jb1, ?_⟩⟩
  have n5 := Same.new (o := .lst (cutV P (some 1) none)) hb1
  generalize upd H4 b1 (.lst (cutV P (some 1) none)) = H5 at n5 ⊢
  have cP1 := cutV_length P none (some 1)
  obtain ⟨A2, ea2, ja2, jb2, jc2⟩ := jo (P ++ cutV P none (some 1)) (stP.app (stP.sub fun v hv => cut_memS hv)) (by
   have e : cutV P none (some 1) = P.take 1 := cut_upto (i := 1)
   rw [List.length_append, e, List.length_take]; omega)
  refine ⟨rfl, 1, rfl, l, P, rfl, SqL.of (n5 _ _ kl), fun b2 hb2 => ?_⟩
  have n6 := Same.new (o := .lst (cutV P none (some 1))) hb2
  have k6 : upd H5 b2 (.lst (cutV P none (some 1))) b2 = some (.lst (cutV P none (some 1))) := upd_same
  generalize upd H5 b2 (.lst (cutV P none (some 1))) = H6 at n6 k6 ⊢
  refine ⟨l, b2, _, _, rfl, rfl, (n5.trans n6) _ _ kl, k6, by omega, fun b3 H7 s7 hb3 k7 => ⟨"/", b3, A2, rfl, rfl, by rw [k7, ea2], ja2, jb2, ?_⟩⟩
  have s47 := n5.trans (n6.trans s7)
  obtain ⟨A3, ea3, ja3, jb3, jc3⟩ := jo P.reverse (stP.sub fun v hv => List.mem_reverse.mp hv) (by rw [List.length_reverse]; omega)
  refine ⟨rfl, l, P, rfl, s47 _ _ kl, fun b4 hb4 => ⟨"/", b4, A3, rfl, rfl, by rw [upd_same, ea3], ja3, jb3, ?_⟩⟩
  have n8 := Same.new (o := .lst P.reverse) hb4
  generalize upd H7 b4 (.lst P.reverse) = H8 at n8 ⊢
  intro L1 H9 s9 hL1 kL1
  have s49 := s47.trans (n8.trans s9)
  have st1 : StL 200000 [.str T1, .str T2, .str (joinF "/" A1), .str (joinF "/" A2), .str (joinF "/" A3), .str "", .str "/", .str " ", .str "0"] := .cons (by omega) (.cons (by omega) (.cons jc1 (.cons jc2 (.cons jc3 (.cons (by decide) (.cons (by decide) (.cons (by decide) (.cons (by decide) .nil))))))))
  have k1l : (1 : Nat) ≤ 3 := by decide
  have c1 := len2 (a := T1) (b := "/") lF (show (Str.ofString "/").length ≤ 1 by decide) (by decide)
  have c2 := len2 (a := "/") (b := T1) (show (Str.ofString "/").length ≤ 1 by decide) lF (by decide)
  have c3 := len2 (a := T1) (b := " ") lF (show (Str.ofString " ").length ≤ 1 by decide) (by decide)
  obtain ⟨FA, fx, rfl, hFA, rfx⟩ := Rep.firing rx
  have s09 := s04.trans s49
  refine ⟨_, _, rfl, rfl, c1.1, _, _, rfl, rfl, c2.1, _, _, rfl, rfl, c3.1, 1, rfl, FA, fx, rfl, s09 _ _ hFA, fun B1 H10 s10 kB1 => ?_⟩
  have fF1 : Fit (F.take 1) := ⟨Nat.le_trans (List.length_take_le' ..) fF.1, fun r hr => fF.2 r (List.mem_of_mem_take hr)⟩
  have lF1 := fireT_len fF1
  have rB1 : Rep p H10 (FD (F.take 1)) (.ref B1) := by
   have e : cutV fx none (some 1) = fx.take 1 := cut_upto (i := 1)
   rw [e] at kB1
   refine Rep.tup kB1 ?_
   rw [List.map_take]
   exact Reps.takeB 1 (Reps.ev (Ev.same (s09.trans s10)) _ _ rfx)
  refine ⟨p, _, fF1, rB1, fun H11 s11 => ?_⟩
  generalize fireT (F.take 1) = T3 at lF1
  have s411 := s49.trans (s10.trans s11)
  obtain ⟨A4, ea4, ja4, jb4, jc4⟩ := jo (P ++ [.str "0"]) (stP.app (.cons (by decide) .nil)) (by rw [List.length_append]; show _ + 1 ≤ 500; omega)
  refine ⟨rfl, fun b5 H12 s12 hb5 k12 => ⟨l, b5, _, _, rfl, rfl, (s411.trans s12) _ _ kl, k12, (by show _ + 1 ≤ sizeLine; omega), fun b6 H13 s13 hb6 k13 => ⟨"/", b6, A4, rfl, rfl, by rw [k13, ea4], ja4, jb4, ?_⟩⟩⟩
  intro L2 H14 s14 hL2 kL2
  have st2 : StL 200000 [.str (T1 ++ "/"), .str ("/" ++ T1), .str (T1 ++ " "), .str T3, .str (joinF "/" A4)] := .cons (Nat.le_trans c1.2 (by decide)) (.cons (Nat.le_trans c2.2 (by decide)) (.cons (Nat.le_trans c3.2 (by decide)) (.cons (by omega) (.cons jc4 .nil))))
  have s914 := s10.trans (s11.trans (s12.trans (s13.trans s14)))
  refine ⟨L1, L2, _, _, rfl, rfl, s914 _ _ kL1, kL2, big_list (show 9 + 5 ≤ 1000 from by decide), fun L3 H15 s15 hL3 kL3 => ?_⟩
  have st3 := st1.app st2
  have l3 : ([.str T1, .str T2, .str (joinF "/" A1), .str (joinF "/" A2), .str (joinF "/" A3), .str "", .str "/", .str " ", .str "0"] ++ [.str (T1 ++ "/"), .str ("/" ++ T1), .str (T1 ++ " "), .str T3, .str (joinF "/" A4)] : List V).length = 14 := rfl
  generalize ([.str T1, .str T2, .str (joinF "/" A1), .str (joinF "/" A2), .str (joinF "/" A3), .str "", .str "/", .str " ", .str "0"] ++ [.str (T1 ++ "/"), .str ("/" ++ T1), .str (T1 ++ " "), .str T3, .str (joinF "/" A4)] : List V) = X3 at st3 l3 kL3
  have s015 := s09.trans (s914.trans s15)
  have pn15 := pn.same s015
  have nL3 : L3 ≠ p := (pn.same (s09.trans s914)).ne hL3
  have turn : ∀ (T : Str), T.length ≤ 392 → ∀ (n : Nat) (H0 : Hp) (Q0 : List V → Hp → Prop), Pen p H0 → n ≤ 8 → True := fun _ _ _ _ _ _ _ => trivial
  refine ⟨8, rfl, by decide, by decide, walk_range (n := 8) (fun i zs H' => Ev p H15 H' ∧ Pen p H' ∧ zs.length = i ∧ StL 200000 zs) (by decide) ⟨Ev.refl, pn15, rfl, .nil⟩ (fun i zs H' h => by rw [h.2.2.1]; exact Nat.le_refl _) (fun i zs H' hi' h => ?_) fun zs H16 h => ?_⟩
  ·obtain ⟨eh, ph, hl', hz⟩ := h
   exact ⟨⟨rfl, rfl, trivial⟩, fun _ => ⟨ph, by omega, fun s H2' hs e2 pn2' => ⟨eh.trans e2, pn2', by rw [List.length_append, hl']; rfl, hz.app (.cons (by omega) .nil)⟩⟩, fun z => by cases z⟩
  obtain ⟨e16, pn16, lz, stz⟩ := h
  have lz8 : zs.length = 8 := lz
  intro m hm
  have n17 := Same.new (o := .lst zs) hm
  have k17 : upd H16 m (.lst zs) m = some (.lst zs) := upd_same
  have kL17 := n17 _ _ (e16.lst kL3 nL3)
  have pn17 := pn16.same n17
  have e17 := e16.trans (Ev.same (p := p) n17)
  generalize upd H16 m (.lst zs) = H17 at n17 k17 kL17 pn17 e17 ⊢
  refine ⟨L3, m, _, _, rfl, rfl, kL17, k17, big_list (by omega), fun L4 H18 s18 hL4 kL4 => ?_⟩
  have nL4 : L4 ≠ p := pn17.ne hL4
  have st4 := st3.app stz
  have l4 : (X3 ++ zs).length = 22 := by rw [List.length_append]; omega
  have pn18 := pn17.same s18
  have e18 := e17.trans (Ev.same (p := p) s18)
  generalize X3 ++ zs = X4 at st4 l4 kL4
  refine ⟨4, rfl, by decide, by decide, walk_range (n := 4) (fun i zs H' => Ev p H18 H' ∧ Pen p H' ∧ zs.length = i ∧ StL 200000 zs) (by decide) ⟨Ev.refl, pn18, rfl, .nil⟩ (fun i zs H' h => by rw [h.2.2.1]; exact Nat.le_refl _) (fun i zs H' hi' h => ?_) fun zs H19 h => ?_⟩
  ·obtain ⟨eh, ph, hl', hz⟩ := h
   exact ⟨⟨rfl, rfl, trivial⟩, fun _ => ⟨ph, by omega, fun s H2' hs e2 pn2' => ⟨eh.trans e2, pn2', by rw [List.length_append, hl']; rfl, hz.app (.cons (by omega) .nil)⟩⟩, fun z => by cases z⟩
  obtain ⟨e19, pn19, ly, sty⟩ := h
  have ly4 : zs.length = 4 := ly
  intro m2 hm2
  have n20 := Same.new (o := .lst zs) hm2
  have k20 : upd H19 m2 (.lst zs) m2 = some (.lst zs) := upd_same
  have kL20 := n20 _ _ (e19.lst kL4 nL4)
  have pn20 := pn19.same n20
  have e20 := (e18.trans e19).trans (Ev.same (p := p) n20)
  generalize upd H19 m2 (.lst zs) = H20 at n20 k20 kL20 pn20 e20 ⊢
  refine ⟨L4, m2, _, _, rfl, rfl, kL20, k20, big_list (by omega), fun L5 H21 s21 hL5 kL5 => ?_⟩
  obtain ⟨ss, ess, hss, lss⟩ := (st4.app sty).strs
  have e021 := ((Ev.same (p := p) s015).trans e20).trans (Ev.same s21)
  refine q L5 ss H21 ?_ (by rw [kL5, ess]) hss (by rw [lss, List.length_append]; omega) e021 (pn20.same s21)
  cases z : H L5 with
  | none => rfl
  | some o =>
   rcases ((Ev.same (p := p) s015).trans e20) L5 o z with w' | w'
   ·exact absurd rfl (fun zz : L5 = L5 => pn20.ne hL5 w'.1)
   ·rw [w'] at hL5; cases hL5
 ·exact h.elim
end
end MF

end

section
namespace MF
open PySem PySem.Spec PyProof.Rows L2
def Lo (x : Str) : Prop := ∀ c ∈ x.cps.toList, c < 16 ^ 8
theorem lo_of (s : String) : Lo (Str.ofString s) := fun c hc => by
 rw [Str.ofString_eq_toList] at hc
 obtain ⟨ch, _, rfl⟩ := List.mem_map.mp hc
 exact ch.val.toNat_lt
theorem lo_fold {sep : Str} (hs : Lo sep) : ∀ (l : List Str) (acc : Array Nat), (∀ x ∈ l, Lo x) → (∀ c ∈ acc.toList, c < 16 ^ 8) → ∀ c ∈ (l.foldl (fun acc p => acc ++ sep.cps ++ p.cps) acc).toList, c < 16 ^ 8
 | [], acc, _, h => h
 | x :: l, acc, hl, h => by
  rw [List.foldl_cons]
  refine lo_fold hs l _ (fun y hy => hl y (List.mem_cons_of_mem _ hy)) fun c hc => ?_
  rw [Array.toList_append, Array.toList_append] at hc
  rcases List.mem_append.mp hc with z | z
  ·rcases List.mem_append.mp z with z | z
   ·exact h c z
   ·exact hs c z
  ·exact hl x (List.mem_cons_self ..) c z
theorem lo_join {sep : Str} {l : List Str} (hs : Lo sep) (h : ∀ x ∈ l, Lo x) : Lo (joinF sep l) := by
 have g : Lo (Builtin.Str.glued sep l) := by
  unfold Builtin.Str.glued
  refine lo_fold hs _ _ (fun x hx => h x (List.mem_of_mem_drop hx)) ?_
  cases l with
  | nil => intro c hc; cases hc
  | cons x l => exact h x (List.mem_cons_self ..)
 match l, h, g with
 | [], _, g => exact g
 | [x], h, _ => exact h x (List.mem_cons_self ..)
 | _ :: _ :: _, _, g => exact g
theorem nice_fire {F : List (List Int)} (h : Fit F) : Nice (.str (fireT F)) := by
 have l : Lo (fireT F) := lo_join (lo_of _) fun x hx => by
  obtain ⟨r, _, rfl⟩ := List.mem_map.mp hx
  exact lo_join (lo_of _) fun y hy => by
   obtain ⟨n, _, rfl⟩ := List.mem_map.mp hy
   exact lo_of _
 have e := StrLaws.reprText_len _ l
 have n := fireT_len h
 exact ⟨by unfold wide; omega, (show (0 : Nat) ≤ 20 from by decide), .inl rfl⟩
theorem fit_firing {P : PL} {S : SY} {F : List (List Int)} (ok : P.ok) (so : S.ok P.bs.length) (fo : FOk P S F) : Fit F := by
 have x8 := so.x8
 have b4 := ok.b4
 have lf := fo.len
 refine ⟨by omega, fun r hr => ?_⟩
 obtain ⟨i, hi⟩ := List.getElem?_of_mem hr
 have l1 := fo.row i r hi
 have hi' : i < S.ex.length := by have := (List.getElem?_eq_some_iff.mp hi).1; omega
 refine ⟨by omega, fun n hn => ?_⟩
 obtain ⟨j, hj⟩ := List.getElem?_of_mem hn
 have cb := caps_bd (S := S) ok _ (List.mem_of_getElem? (caps_get hi'))
 obtain ⟨c, hc⟩ : ∃ c, (capsIn P.bs S.fs i)[j]? = some c := ⟨_, List.getElem?_eq_getElem (by have := (List.getElem?_eq_some_iff.mp hj).1; omega)⟩
 have b := fo.bd i r j n c hi hj hc
 have c9 := cb.1 c (List.mem_of_getElem? hc)
 omega
theorem readF_fit {C F : List (List Int)} {ps : List Str} (fC : Fit C) (h : readF C ps = .inr F) : Fit F := by
 unfold readF at h
 split at h
 ·cases h
 ·rename_i hn
  have all : ∀ j, j < ps.length → ∃ r, rowAt C ps j = some r := fun j hj => by
   have := List.find?_eq_none.mp hn j (List.mem_range.mpr hj)
   cases z : rowAt C ps j with
   | none => rw [z] at this; exact absurd rfl this
   | some r => exact ⟨r, rfl⟩
  split at h
  ·cases h
  ·cases h
   refine ⟨?_, fun r hr => ?_⟩
   ·rw [List.length_map, List.length_range]
    by_cases z : ps.length = 0
    ·omega
    ·obtain ⟨r, hr⟩ := all (ps.length - 1) (by omega)
     have := (rowAt_is hr).1
     have := fC.1
     omega
   ·obtain ⟨j, hj, rfl⟩ := List.mem_map.mp hr
    obtain ⟨r, hr⟩ := all j (List.mem_range.mp hj)
    obtain ⟨hc, ok, er⟩ := rowAt_is hr
    have hCj : C[j]? = some (C.getD j []) := by rw [List.getD_eq_getElem?_getD, List.getElem?_eq_getElem hc]; rfl
    obtain ⟨c4, c9⟩ := fC.2 _ (List.mem_of_getElem? hCj)
    rw [hr]
    show r.length ≤ 4 ∧ _
    subst er
    refine ⟨by rw [List.length_map, rowOk_len ok]; exact c4, fun n hn => ?_⟩
    obtain ⟨w, hw, rfl⟩ := List.mem_map.mp hn
    obtain ⟨i, hi⟩ := List.getElem?_of_mem hw
    obtain ⟨m, hm, _, e, _⟩ := rowOk_word ok c9 hi
    rw [e]; omega
theorem readF_at {C : List (List Int)} {ps : List Str} {n : Int} (h : readF C ps = .inl n) : n = -1 ∨ ∃ i, i < ps.length ∧ n = ((i : Nat) : Int) := by
 unfold readF at h
 split at h
 ·rename_i i hi
  cases h
  exact .inr ⟨i, List.mem_range.mp (List.mem_of_find?_eq_some hi), rfl⟩
 ·split at h
  ·cases h; exact .inl rfl
  ·cases h
theorem small_text0 : Small 40 0 (.str "text") := ⟨by decide +kernel, by decide, rfl⟩
theorem nice_at {n : Int} (h : n.natAbs < 10 ^ 6) : Nice (.tuple [.str "text", .int n]) := (small_tup (n := 40) (k := 0) (m := 1000) (fun d hd => by
 simp only [List.mem_cons, List.not_mem_nil, or_false] at hd
 rcases hd with rfl | rfl
 ·exact small_text0
 ·exact small_int h) (Nat.le_of_ble_eq_true rfl)).nice (by decide) (by decide)
theorem nice_told {F : List (List Int)} (h : Fit F) : Nice (.tuple [.str "told", FD F]) := (small_tup (n := 30000) (k := 2) (m := 100000) (fun d hd => by
 simp only [List.mem_cons, List.not_mem_nil, or_false] at hd
 rcases hd with rfl | rfl
 ·exact ⟨by decide +kernel, by decide, rfl⟩
 ·exact small_rows (fun r hr => by
   obtain ⟨a, b⟩ := h.2 r hr
   exact ⟨fun i hi => by have := b i hi; omega, by omega⟩) (by have := h.1; omega)) (Nat.le_of_ble_eq_true rfl)).nice (by decide) (by decide)
def strB : PyData → Bool | .str t => decide (t.length ≤ 200000) | _ => true
theorem odd_strB : ∀ d ∈ oddDs, strB d = true := by decide +kernel
theorem strB_is {d : PyData} (h : strB d = true) : ∀ t, d = .str t → t.length ≤ 200000 := fun t e => by subst e; exact of_decide_eq_true h
theorem readD_at {C : List (List Int)} {d : PyData} {n : Int} (h : readD C d = .inl n) (hs : ∀ t, d = .str t → t.length ≤ 200000) : n.natAbs < 10 ^ 6 := by
 have none : n = -1 → n.natAbs < 10 ^ 6 := fun e => by rw [e]; decide
 cases d with
 | str t =>
  have ht := hs t rfl
  have hl := splitF_len t "/"
  rcases readF_at h with e | ⟨i, hi, e⟩
  ·exact none e
  ·rw [e]
   have : (10 : Nat) ^ 6 = 1000000 := by decide
   omega
 | none => exact none (by cases h; rfl)
 | bool _ => exact none (by cases h; rfl)
 | int _ => exact none (by cases h; rfl)
 | tuple _ => exact none (by cases h; rfl)
 | list _ => exact none (by cases h; rfl)
 | dict _ => exact none (by cases h; rfl)
theorem readD_fit {C F : List (List Int)} {d : PyData} (fC : Fit C) (h : readD C d = .inr F) : Fit F := by
 cases d with
 | str t => exact readF_fit fC h
 | none => cases h
 | bool _ => cases h
 | int _ => cases h
 | tuple _ => cases h
 | list _ => cases h
 | dict _ => cases h
theorem pen_grow {p TB : Addr} {H H' : Hp} {ql : Str} (h : Pen p H) (t : TabIn H TB ql) (g : ∀ b o, H b = some o → b ≠ TB → H' b = some o) : Pen p H' := by
 obtain ⟨l, f, e⟩ := h
 refine ⟨l, f, g _ _ e fun z => ?_⟩
 obtain ⟨ps, h1, _⟩ := t
 rw [z, h1] at e; cases e
section
variable {P : Program} {w : World} {K : PySem.W.Frag} {mg : Str → Option Value} {base : Heap}
theorem sc_law : FnScope ["_law_script", "_law_cell_here", "_law_pen_here", "_law_turn", "_law_plant_here", "_law_story_here", "_law_caps_here", "_law_firing_here", "_law_text_here", "_law_due_here", "_law_again"] ["_law_script"] (defScope s_law) := ⟨rfl, rfl, rfl, by decide +kernel, rfl, by decide +kernel, by decide +kernel⟩
theorem ok_law {M : Addr} {ds : List Addr} {c TB : Addr} {lf : Addr} {lfd : FuncData} (F : FunC K "law" "law" s_law lf lfd c) (hC : PySem.W.CodeHd base c TB) (hBu : base.BuiltinsAt mg TB) (T : Tx mg) (C : Tc K mg M ds) (D__law_caps : Fn P w K mg base 1 "_law_caps" ["_law_plant_here", "_law_story_here"] sp__law_caps) (D__law_cell : Fn P w K mg base 1 "_law_cell" ["_law_script", "_law_k"] (sp__law_cell K)) (D__law_due : Fn P w K mg base 2 "_law_due" ["_law_caps_here", "_law_text_here"] sp__law_due) (D__law_firing : Fn P w K mg base 2 "_law_firing" ["_law_pen_here", "_law_caps_here"] sp__law_firing) (D__law_odd : Fn P w K mg base 2 "_law_odd" ["_law_pen_here"] sp__law_odd) (D__law_pen : Fn P w K mg base 1 "_law_pen" ["_law_cell_here"] sp__law_pen) (D__law_plant : Fn P w K mg base 2 "_law_plant" ["_law_pen_here"] sp__law_plant) (D__law_story : Fn P w K mg base 2 "_law_story" ["_law_pen_here", "_law_plant_here"] sp__law_story) (D__law_text : Fn P w K mg base 1 "_law_text" ["_law_firing_here"] sp__law_text) (D__law_texts : Fn P w K mg base 3 "_law_texts" ["_law_pen_here", "_law_firing_here", "_law_caps_here"] sp__law_texts) (D_firing_text : Fn P w K mg base 12 "firing_text" ["plant", "story", "firing"] sp_firing_text) (D__law_said : FnS P w K mg base 12 "_law_said" ["_law_call"] (saidSpT P w K mg base 11 (WT K M ds))) (DE_firing_read : FnE P w K mg base 10 "firing_read" ["plant", "story", "text"] (spE_firing_read (ds.getD 18 0))) : FnOk P w K mg base CX0 13 lf lfd ["_law_script"] (sp_law K TB) := by
 refine F.ok sc_law (fun vs H Q E h => ?_) (fun A outer s H vs Q E hr h => ?_)
 ·exact len_law h
 refine ⟨_, (@pss_cons _ _ _ _ _ (@ps_for _ _ _ _ _ _ _ _ PassesOwn.never rfl (@piL _ K _ _ _ (@pe_op _ _ _ _ _ _ _ _ (@op_catG _) (@c_lstG _ _ _ _ (@pa1 _ _ _ (@c_call _ _ _ _ _ _ _ _ _ _ D__law_cell (hr.mono (by decide)) rfl (@pa2 _ _ _ _ _ (@cx _ 0 _ _ (by rfl)) (@pe_int _ _ _ _) (by rfl)) (by decide) (by rfl) (by rfl)) (by rfl))) (@pe_slice _ _ _ _ _ _ _ _ _ _ (@slL _ K (by rfl)) (@cx _ 0 _ _ (by rfl)) (@po_some _ _ _ (@pe_int _ _ _ _)) (@po_some _ _ _ (@pe_int _ _ _ _)))) (by rfl)) (@pgx _ _ _ 1 sc_law.nd (by rfl)) (@pss_cons _ _ _ _ _ (@ps_set _ _ (2) _ _ _ _ sc_law.nd rfl (loc_of (by rfl)) (@c_call _ _ _ _ _ _ _ _ _ _ D__law_pen (hr.mono (by decide)) rfl (@pa1 _ _ _ (@cx _ 1 _ _ (by rfl)) (by rfl)) (by decide) (by rfl) (by rfl)) (by rfl) (fl_of (by rfl))) (@pss_one _ _ _ (@ps_for _ _ _ _ _ _ _ _ PassesOwn.never rfl (@pi_range1 _ _ _ _ _ _ rfl T.b_range (@pa1 _ _ _ (@pe_int _ _ _ _) (by rfl)) (by rfl)) (@pgx _ _ _ 3 sc_law.nd (by rfl)) (@pss_cons _ _ _ _ _ (@ps_set _ _ (4) _ _ _ _ sc_law.nd rfl (loc_of (by rfl)) (@c_call _ _ _ _ _ _ _ _ _ _ D__law_plant (hr.mono (by decide)) rfl (@pa1 _ _ _ (@cx _ 2 _ _ (by rfl)) (by rfl)) (by decide) (by rfl) (by rfl)) (by rfl) (fl_of (by rfl))) (@pss_cons _ _ _ _ _ (@ps_set _ _ (5) _ _ _ _ sc_law.nd rfl (loc_of (by rfl)) (@c_call _ _ _ _ _ _ _ _ _ _ D__law_story (hr.mono (by decide)) rfl (@pa2 _ _ _ _ _ (@cx _ 2 _ _ (by rfl)) (@cx _ 4 _ _ (by rfl)) (by rfl)) (by decide) (by rfl) (by rfl)) (by rfl) (fl_of (by rfl))) (@pss_cons _ _ _ _ _ (@ps_set _ _ (6) _ _ _ _ sc_law.nd rfl (loc_of (by rfl)) (@c_call _ _ _ _ _ _ _ _ _ _ D__law_caps (hr.mono (by decide)) rfl (@pa2 _ _ _ _ _ (@cx _ 4 _ _ (by rfl)) (@cx _ 5 _ _ (by rfl)) (by rfl)) (by decide) (by rfl) (by rfl)) (by rfl) (fl_of (by rfl))) (@pss_cons _ _ _ _ _ (@ps_set _ _ (7) _ _ _ _ sc_law.nd rfl (loc_of (by rfl)) (@c_call _ _ _ _ _ _ _ _ _ _ D__law_firing (hr.mono (by decide)) rfl (@pa2 _ _ _ _ _ (@cx _ 2 _ _ (by rfl)) (@cx _ 6 _ _ (by rfl)) (by rfl)) (by decide) (by rfl) (by rfl)) (by rfl) (fl_of (by rfl))) (@pss_cons _ _ _ _ _ (@c_if _ _ _ _ _ _ _ _ (@c_cmpT _ _ _ _ _ _ _ _ (@op_ne _) (@pe_callB _ _ _ _ _ _ _ _ _ (@call_repr _ _ hr) rfl T.b_repr boot_repr (@pa1 _ _ _ (@c_call _ _ _ _ _ _ _ _ _ _ D_firing_text (hr.mono (by decide)) rfl (@pa3 _ _ _ _ _ _ _ (@cx _ 4 _ _ (by rfl)) (@cx _ 5 _ _ (by rfl)) (@cx _ 7 _ _ (by rfl)) (by rfl)) (by decide) (by rfl) (by rfl)) (by rfl)) (by decide) (by decide) (by rfl) (by rfl)) (@pe_callB _ _ _ _ _ _ _ _ _ (@call_repr _ _ hr) rfl T.b_repr boot_repr (@pa1 _ _ _ (@c_call _ _ _ _ _ _ _ _ _ _ D__law_text (hr.mono (by decide)) rfl (@pa1 _ _ _ (@cx _ 7 _ _ (by rfl)) (by rfl)) (by decide) (by rfl) (by rfl)) (by rfl)) (by decide) (by decide) (by rfl) (by rfl)) (nomark _)) (@pss_one _ _ _ (@ps_ret _ _ _ _ (@pe_bl _ _ _ _))) (@pss_nil _)) (@pss_one _ _ _ (@ps_for _ _ _ _ _ _ _ _ PassesOwn.never rfl (@piL _ K _ _ _ (@pe_op _ _ _ _ _ _ _ _ (@op_catG _) (@c_call _ _ _ _ _ _ _ _ _ _ D__law_texts (hr.mono (by decide)) rfl (@pa3 _ _ _ _ _ _ _ (@cx _ 2 _ _ (by rfl)) (@cx _ 7 _ _ (by rfl)) (@cx _ 6 _ _ (by rfl)) (by rfl)) (by decide) (by rfl) (by rfl)) (@c_lstG _ _ _ _ (@pa3 _ _ _ _ _ _ _ (@c_call _ _ _ _ _ _ _ _ _ _ D__law_odd (hr.mono (by decide)) rfl (@pa1 _ _ _ (@cx _ 2 _ _ (by rfl)) (by rfl)) (by decide) (by rfl) (by rfl)) (@pe_non _ _ _) (@cx _ 7 _ _ (by rfl)) (by rfl)))) (by rfl)) (@pgx _ _ _ 8 sc_law.nd (by rfl)) (@pss_cons _ _ _ _ _ (@ps_set _ _ (9) _ _ _ _ sc_law.nd rfl (loc_of (by rfl)) (@c_call _ _ _ _ _ _ _ _ _ _ D__law_due (hr.mono (by decide)) rfl (@pa2 _ _ _ _ _ (@cx _ 6 _ _ (by rfl)) (@cx _ 8 _ _ (by rfl)) (by rfl)) (by decide) (by rfl) (by rfl)) (by rfl) (fl_of (by rfl))) (@pss_one _ _ _ (@ps_for _ _ _ _ _ _ _ _ PassesOwn.never rfl (@pi_range1 _ _ _ _ _ _ rfl T.b_range (@pa1 _ _ _ (@pe_int _ _ _ _) (by rfl)) (by rfl)) (@pgx _ _ _ 10 sc_law.nd (by rfl)) (@pss_one _ _ _ (@c_if _ _ _ _ _ _ _ _ (@c_cmpT _ _ _ _ _ _ _ _ (@op_ne _) (@pe_callB _ _ _ _ _ _ _ _ _ (@call_repr _ _ hr) rfl T.b_repr boot_repr (@pa1 _ _ _ (pe_saidT (N' := ["_law_plant_here", "_law_story_here", "_law_text_here"]) (cap := [some 4, some 5, some 8]) D__law_said (hr.mono (by decide)) rfl (fun _ => rfl) rfl hC hBu (BlockScope.of rfl) (by decide) rfl rfl rfl rfl (fun _ _ _ _ => rfl) (fun A outer s H f c E hrA => (c_callE isDef_lam DE_firing_read ((hrA.deeper _).mono (by decide)) rfl (@pa3 _ _ _ _ _ _ _ (@cx _ 0 _ _ (by rfl)) (@cx _ 1 _ _ (by rfl)) (@cx _ 2 _ _ (by rfl)) (by rfl))))) (by rfl)) (by decide) (by decide) (by rfl) (by rfl)) (@pe_callB _ _ _ _ _ _ _ _ _ (@call_repr _ _ hr) rfl T.b_repr boot_repr (@pa1 _ _ _ (@cx _ 9 _ _ (by rfl)) (by rfl)) (by decide) (by decide) (by rfl) (by rfl)) (nomark _)) (@pss_one _ _ _ (@ps_ret _ _ _ _ (@pe_bl _ _ _ _))) (@pss_nil _))) (by intro _; rfl)))) (by intro _; rfl)))))))) (by intro _; rfl)))) (by intro _; rfl)) (@pss_one _ _ _ (@ps_ret _ _ _ _ (@pe_bl _ _ _ _)))), ?_⟩
 unfold sp_law at h
 split at h
 ·rename_i a
  obtain ⟨ns, hS, hn63, hTB, q⟩ := h
  have tb0 : TabIn H TB qlLaw := ⟨#[], hTB, trivial, fun pos v e => (by have : (none : Option Value) = some v := e; cases this)⟩
  refine ⟨ns, hS, by decide, fun c0 l1 H01 s01 hl1 k01 => ?_⟩
  have hS1 : SqL K H01 a (ns.map V.int) := s01.seq hS
  refine ⟨1, rfl, 3, rfl, a, _, rfl, hS1, fun l2 hl2 => ?_⟩
  have lc : (cutV (ns.map V.int) (some 1) (some 3)).length ≤ 63 := Nat.le_trans (cutV_length _ _ _) (by rw [List.length_map]; exact hn63)
  refine ⟨l1, l2, [.int c0], _, rfl, rfl, (Same.new hl2) _ _ k01, upd_same, big_list (by rw [List.length_singleton]; omega), fun L H02 s02 hL kL => ?_⟩
  have allI : ∀ v ∈ [V.int c0] ++ cutV (ns.map V.int) (some 1) (some 3), ∃ i, v = .int i := fun v hv => by
   rcases List.mem_append.mp hv with hv | hv
   ·exact ⟨c0, List.mem_singleton.mp hv⟩
   ·obtain ⟨i, _, e⟩ := List.mem_map.mp (cut_mem hv); exact ⟨i, e.symm⟩
  have tb1 := tb0.same (s01.trans ((Same.new hl2).trans s02))
  generalize [V.int c0] ++ cutV (ns.map V.int) (some 1) (some 3) = xs at allI kL
  refine ⟨L, rfl, ⟨xs, SqL.of kL⟩, for_list (xs := xs) (fun i σ H' => (∃ x1 x2 x3 x4 x5 x6 x7 x8 x9 x10, σ = [some (.ref a), x1, x2, x3, x4, x5, x6, x7, x8, x9, x10]) ∧ H' L = some (.lst xs) ∧ TabIn H' TB qlLaw) ⟨⟨_, _, _, _, _, _, _, _, _, _, rfl⟩, kL, tb1⟩ (fun i σ H' _ h => SqL.of h.2.1) (fun i x σ H1 hx h => ?_) fun σ H1 h => q H1⟩
  obtain ⟨⟨x1, x2, x3, x4, x5, x6, x7, x8, x9, x10, rfl⟩, hL1, tb2⟩ := h
  obtain ⟨c, rfl⟩ := allI x (List.mem_of_getElem? hx)
  refine fun p l f hp => ?_
  have nLp : L ≠ p := ne_of_none hL1 hp
  have np := Same.new (o := .lst [.int l, .int f]) hp
  have pn2 : Pen p (upd H1 p (.lst [.int l, .int f])) := ⟨l, f, upd_same⟩
  have hL2 := np _ _ hL1
  have tb3 := tb2.same np
  generalize upd H1 p (.lst [.int l, .int f]) = H2 at np pn2 hL2 tb3 ⊢
  refine ⟨2, rfl, by decide, by decide, for_range (n := 2) (fun i σ H' => (∃ x3 x4 x5 x6 x7 x8 x9 x10, σ = [some (.ref a), some (.int c), some (.ref p), x3, x4, x5, x6, x7, x8, x9, x10]) ∧ H' L = some (.lst xs) ∧ TabIn H' TB qlLaw ∧ Pen p H') ⟨⟨_, _, _, _, _, _, _, _, rfl⟩, hL2, tb3, pn2⟩ (fun i0 σ H' hi h => ?_) fun σ H' h => ?_⟩
  ·obtain ⟨⟨x3, x4, x5, x6, x7, x8, x9, x10, rfl⟩, hL3, tb4, pn3⟩ := h
   have fS := fun {H H' : Hp} (s : Same H H') => Ev.same (p := p) s
   refine ⟨pn3, fun v H3 bs es lo hi' st gp rv e3 pn4 => ?_⟩
   obtain ⟨P, ok, eP⟩ := gp.pl
   rw [eP] at rv
   refine ⟨pn4, P, ok, rv, fun u H4 S so ru e4 pn5 => ?_⟩
   have rv4 := Rep.ev e4 _ _ rv
   refine ⟨p, P, S, ok, so, rv4, ru, fun vc H5 s5 rc => ?_⟩
   have pn5' := pn5.same s5
   refine ⟨pn5', P, S, ok, so, rc, fun w7 H7 F fo rf e7 pn7 => ?_⟩
   have e57 := (fS s5).trans e7
   have rv7 := Rep.ev e57 _ _ rv4
   have ru7 := Rep.ev e57 _ _ ru
   have rc7 := Rep.ev e7 _ _ rc
   have fF := fit_firing ok so fo
   have fC := fit_firing ok so (FOk.caps (S := S) ok)
   have nF := nice_fire fF
   refine ⟨p, P, S, F, ⟨ok, so, fo, rv7, ru7, rf⟩, fun H8 s8 => ⟨p, .str (fireT F), Rep.str, nF, p, F, fF, Rep.ev (fS s8) _ _ rf, fun H9 s9 => ⟨p, .str (fireT F), Rep.str, nF, rfl, ⟨fun z => by simp at z, fun _ => ?_⟩⟩⟩⟩
   have s79 := s8.trans s9
   have pn9 := pn7.same s79
   refine ⟨pn9, F, caps P S, fF, fC, Rep.ev (fS s79) _ _ rf, Rep.ev (fS s79) _ _ rc7, fun L9 ss H10 hL9 kL9 hss lss e10 pn10 => ?_⟩
   refine ⟨pn10, fun vo H11 d0 rd0 hd0 e11 pn11 => ?_⟩
   intro L11 H12 s12 hL11 kL11
   have nL9 : L9 ≠ p := pn9.ne hL9
   refine ⟨L9, L11, _, _, rfl, rfl, s12 _ _ (e11.lst kL9 nL9), kL11, big_list (by rw [List.length_map]; show _ + 3 ≤ 1000; omega), fun L12 H13 s13 hL12 kL12 => ?_⟩
   have pn13 := pn11.same (s12.trans s13)
   have nL12 : L12 ≠ p := (pn11.same s12).ne hL12
   have e713 : Ev p H7 H13 := (fS s79).trans (e10.trans (e11.trans (fS (s12.trans s13))))
   have e13 : Ev p H' H13 := e3.trans (e4.trans (e57.trans e713))
   have rv13 := Rep.ev e713 _ _ rv7
   have ru13 := Rep.ev e713 _ _ ru7
   have rc13 := Rep.ev e713 _ _ rc7
   have tb13 := tb4.ev e13
   have hL13 := e13.lst hL3 nLp
   have rsT : ∀ l : List Str, Reps p H13 (l.map PyData.str) (l.map V.str) := fun l => by
    induction l with
    | nil => exact .nil
    | cons t r ih => exact .cons Rep.str ih
   have rs : Reps p H13 (ss.map PyData.str ++ [d0, .none, FD F]) (ss.map V.str ++ [vo, .non, w7]) := (rsT ss).append (.cons (Rep.ev (fS (s12.trans s13)) _ _ rd0) (.cons (by unfold Rep; rfl) (.cons (Rep.ev e713 _ _ rf) .nil)))
   have dst : ∀ d ∈ ss.map PyData.str ++ [d0, .none, FD F], ∀ t, d = .str t → t.length ≤ 200000 := fun d hd t e => by
    rcases List.mem_append.mp hd with hd | hd
    ·obtain ⟨t', ht', e'⟩ := List.mem_map.mp hd
     rw [e] at e'; cases e'
     exact hss t ht'
    ·simp only [List.mem_cons, List.not_mem_nil, or_false] at hd
     rcases hd with rfl | rfl | rfl
     ·exact strB_is (odd_strB _ hd0) t e
     ·cases e
     ·cases e
   generalize ss.map PyData.str ++ [d0, .none, FD F] = dsc at rs dst
   generalize ss.map V.str ++ [vo, .non, w7] = xsc at rs kL12
   refine ⟨L12, rfl, ⟨_, SqL.of kL12⟩, for_list (xs := xsc) (fun i σ H' => (∃ x8 x9 x10, σ = [some (.ref a), some (.int c), some (.ref p), some (.int (0 + i0)), some v, some u, some vc, some w7, x8, x9, x10]) ∧ EvT p H13 H' ∧ Pen p H' ∧ TabIn H' TB qlLaw) ⟨⟨_, _, _, rfl⟩, EvT.refl, pn13, tb13⟩ (fun i σ H' _ h => SqL.of (h.2.1.lst kL12 nL12)) (fun i x σ Hd hx h => ?_) fun σ Hd h => ?_⟩
   ·obtain ⟨⟨x8, x9, x10, rfl⟩, ed, pnd, tbd⟩ := h
    obtain ⟨d, hd, rd⟩ := rs.got hx
    have hs := dst d (List.mem_of_getElem? hd)
    have rdd := Rep.evT ed _ _ rd
    refine ⟨p, caps P S, d, fC, Rep.evT ed _ _ rc13, rdd, hs, fun b He se rdue => ?_⟩
    have ee := ed.trans (EvT.same (p := p) se)
    refine ⟨2, rfl, by decide, by decide, for_range (n := 2) (fun j σ H' => (∃ x10, σ = [some (.ref a), some (.int c), some (.ref p), some (.int (0 + i0)), some v, some u, some vc, some w7, some x, some (.ref b), x10]) ∧ EvT p He H' ∧ Pen p H' ∧ TabIn H' TB qlLaw) ⟨⟨_, rfl⟩, EvT.refl, pnd.same se, tbd.same se⟩ (fun j σ Hf hj h => ?_) fun σ Hf h => ?_⟩
    ·obtain ⟨⟨x10, rfl⟩, ef, pnf, tbf⟩ := h
     refine ⟨tbf, fun H1' T1 k1 => ?_⟩
     have e12 := EvT.grow (p := p) tbf k1
     have e1 := ef.trans e12
     have eD := ee.trans e1
     have pn1 := pen_grow pnf tbf k1
     refine ⟨p, P, S, d, ok, so, Rep.evT eD _ _ rv13, Rep.evT eD _ _ ru13, Rep.evT eD _ _ rd, hs, fun n H4' a' hr' s4 ha hxd => ?_, fun F' H4' b' hr' s4 rF => ?_⟩
     ·have hn := readD_at hr' hs
      have ed' : dueD (caps P S) d = .tuple [.str "text", .int n] := by unfold dueD; rw [hr']
      refine ⟨_, [.str "text", .int n], rfl, ⟨a', .int n, rfl, rfl, C.w_NoText, C.hd, C.na, hxd, rfl⟩, fun H3' t3 ext ht3 => ?_⟩
      have sall : Same H1' H3' := Same.trans s4 ext
      rw [ed'] at rdue
      exact ⟨p, _, Rep.tup ht3 (.cons Rep.str (.cons Rep.int .nil)), nice_at hn, p, _, Rep.evT (e1.trans (EvT.same sall)) _ _ rdue, nice_at hn, rfl, ⟨fun z => by simp at z, fun _ => ⟨⟨_, rfl⟩, e1.trans (EvT.same sall), pn1.same sall, T1.same sall⟩⟩⟩
     ·have fR := readD_fit fC hr'
      have ed' : dueD (caps P S) d = .tuple [.str "told", FD F'] := by unfold dueD; rw [hr']
      intro t3 ht3
      have nt3 := Same.new (o := .tup [.str "told", .ref b']) ht3
      have sall := Same.trans s4 nt3
      rw [ed'] at rdue
      exact ⟨p, _, Rep.tup upd_same (.cons Rep.str (.cons (Rep.ev (fS nt3) _ _ rF) .nil)), nice_told fR, p, _, Rep.evT (e1.trans (EvT.same sall)) _ _ rdue, nice_told fR, rfl, ⟨fun z => by simp at z, fun _ => ⟨⟨_, rfl⟩, e1.trans (EvT.same sall), pn1.same sall, T1.same sall⟩⟩⟩
    ·obtain ⟨⟨x10, rfl⟩, ef, pnf, tbf⟩ := h
     exact ⟨⟨_, _, _, rfl⟩, ee.trans ef, pnf, tbf⟩
   ·obtain ⟨⟨x8, x9, x10, rfl⟩, ed, pnd, tbd⟩ := h
    exact ⟨⟨_, _, _, _, _, _, _, _, rfl⟩, ed.lst hL13 nLp, tbd, pnd⟩
  ·obtain ⟨⟨x3, x4, x5, x6, x7, x8, x9, x10, rfl⟩, hL3, tb4, pn3⟩ := h
   exact ⟨⟨_, _, _, _, _, _, _, _, _, _, rfl⟩, hL3, tb4⟩
 ·exact h.elim
end
end MF

end

section
namespace MF
open PySem PySem.Spec PyProof.Rows L2
abbrev D4 (K : PySem.W.Frag) (x : Str) (st : Stmt) : Prop := ∃ (f : Addr) (oc : Value) (od an : Option Addr) (sl : Array (Option Value)) (kV dc pm cd ct : Value), PySem.W.nsIn K mainGlobals x = some (some (.ref f)) ∧ K.lookup f = some ⟨oc, od, .func (PySem.W.fnOf x x (defArgs st) (defBody st) (defScope st) .none kV dc pm an cd ct), sl⟩ ∧ PySem.W.codeIn K cd x = true ∧ PySem.W.keepIn K (.ref f) = true
theorem d4_mk {K : PySem.W.Frag} {x : Str} {st : Stmt} {f : Addr} {oc : Value} {od an : Option Addr} {sl : Array (Option Value)} {kV dc pm cd ct : Value} (a : PySem.W.nsIn K mainGlobals x = some (some (.ref f))) (l : K.lookup f = some ⟨oc, od, .func (PySem.W.fnOf x x (defArgs st) (defBody st) (defScope st) .none kV dc pm an cd ct), sl⟩) (c : PySem.W.codeIn K cd x = true) (k : PySem.W.keepIn K (.ref f) = true) : D4 K x st := ⟨_, _, _, _, _, _, _, _, _, _, a, l, c, k⟩
theorem df_mk {K : PySem.W.Frag} {h : Heap} {mg : Str → Option Value} {x : Str} {st : Stmt} {ps : List Str} (X : K.In h) (G : h.Ns mainGlobals mg) (d : D4 K x st)
  (hb : ∀ (kV doc pm : Value) (an : Option Addr) (cdv ct : Value) (us : List Value), us.length = ps.length → bindArgs (PySem.W.fnOf x x (defArgs st) (defBody st) (defScope st) .none kV doc pm an cdv ct) ⟨us, []⟩ = pure (ps.zip us)) : Df K mg x st ps := by
 obtain ⟨f, _, _, _, _, _, _, _, _, _, a, l, c, k⟩ := d
 exact ⟨f, _, fun_mk l c k, PySem.W.mg_of X G a, (fun_mk l c k).binds hb⟩
theorem df_1 {K : PySem.W.Frag} {h : Heap} {mg : Str → Option Value} {x : Str} {st : Stmt} {p0 : Str} (X : K.In h) (G : h.Ns mainGlobals mg) (d : D4 K x st) (hb : ∀ (kV doc pm : Value) (an : Option Addr) (cdv ct a0 : Value), bindArgs (PySem.W.fnOf x x (defArgs st) (defBody st) (defScope st) .none kV doc pm an cdv ct) ⟨[a0], []⟩ = pure ([p0].zip [a0]) := by intros; rfl) : Df K mg x st [p0] :=
 df_mk X G d fun _ _ _ _ _ _ us hl => match us, hl with | [_], _ => hb _ _ _ _ _ _ _
theorem df_2 {K : PySem.W.Frag} {h : Heap} {mg : Str → Option Value} {x : Str} {st : Stmt} {p0 p1 : Str} (X : K.In h) (G : h.Ns mainGlobals mg) (d : D4 K x st) (hb : ∀ (kV doc pm : Value) (an : Option Addr) (cdv ct a0 a1 : Value), bindArgs (PySem.W.fnOf x x (defArgs st) (defBody st) (defScope st) .none kV doc pm an cdv ct) ⟨[a0, a1], []⟩ = pure ([p0, p1].zip [a0, a1]) := by intros; rfl) : Df K mg x st [p0, p1] :=
 df_mk X G d fun _ _ _ _ _ _ us hl => match us, hl with | [_, _], _ => hb _ _ _ _ _ _ _ _
theorem df_3 {K : PySem.W.Frag} {h : Heap} {mg : Str → Option Value} {x : Str} {st : Stmt} {p0 p1 p2 : Str} (X : K.In h) (G : h.Ns mainGlobals mg) (d : D4 K x st) (hb : ∀ (kV doc pm : Value) (an : Option Addr) (cdv ct a0 a1 a2 : Value), bindArgs (PySem.W.fnOf x x (defArgs st) (defBody st) (defScope st) .none kV doc pm an cdv ct) ⟨[a0, a1, a2], []⟩ = pure ([p0, p1, p2].zip [a0, a1, a2]) := by intros; rfl) : Df K mg x st [p0, p1, p2] :=
 df_mk X G d fun _ _ _ _ _ _ us hl => match us, hl with | [_, _, _], _ => hb _ _ _ _ _ _ _ _ _
theorem tab_code {K : PySem.W.Frag} {x : Str} {f c T : Addr} {oc : Value} {od : Option Addr} {fd : FuncData} {sl : Array (Option Value)} (a : PySem.W.nsIn K mainGlobals x = some (some (.ref f))) (l : K.lookup f = some ⟨oc, od, .func fd, sl⟩) (t : PySem.W.tabIn K x = some (c, T)) : fd.code = .ref c := by
 unfold PySem.W.tabIn at t
 rw [a] at t
 simp only [l] at t
 split at t
 ·rename_i c' hc
  split at t
  ·split at t
   ·have t' := Option.some.inj t
    have e : c' = c := congrArg Prod.fst t'
    rw [hc, e]
   ·cases t
  ·cases t
 ·cases t
abbrev DI (K : PySem.W.Frag) (C : Addr) : Prop := ∃ (f : Addr) (oc : Value) (od an : Option Addr) (sl : Array (Option Value)) (kV dc pm cd ct : Value), PySem.W.findIn K (.ref C) "__init__" = some (some (.ref f)) ∧ excInI K C f = true ∧ PySem.W.isFn K (.ref f) = true ∧ K.lookup f = some ⟨oc, od, .func (PySem.W.fnOf "__init__" "NoText.__init__" (defArgs s_init) (defBody s_init) (defScope s_init) .none kV dc pm an cd ct), sl⟩ ∧ PySem.W.codeIn K cd "NoText.__init__" = true ∧ PySem.W.keepIn K (.ref f) = true
theorem di_mk {K : PySem.W.Frag} {C : Addr} {f : Addr} {oc : Value} {od an : Option Addr} {sl : Array (Option Value)} {kV dc pm cd ct : Value} (b : PySem.W.findIn K (.ref C) "__init__" = some (some (.ref f))) (e : excInI K C f = true) (h : PySem.W.isFn K (.ref f) = true) (l : K.lookup f = some ⟨oc, od, .func (PySem.W.fnOf "__init__" "NoText.__init__" (defArgs s_init) (defBody s_init) (defScope s_init) .none kV dc pm an cd ct), sl⟩) (c : PySem.W.codeIn K cd "NoText.__init__" = true) (k : PySem.W.keepIn K (.ref f) = true) : DI K C := ⟨_, _, _, _, _, _, _, _, _, _, b, e, h, l, c, k⟩
def xOk (K : PySem.W.Frag) (M C : Addr) : Bool := PySem.W.hasDictIn K C && (PySem.W.findIn K (.ref C) "at" == some none) &&
 ((PySem.W.specialIn K (.ref M) "__getattribute__" == some (some (.builtin "type.__getattribute__"))) && PySem.W.readsIn K M (.type "type") && (match PySem.W.findCls K (.ref M) (.type "type") "__init__" with | some (.val (.builtin n)) => n == "ValueError.__init__" | _ => false)) &&
 ((PySem.W.findIn K (.ref C) "__setattr__" == some (some (.builtin "object.__setattr__"))) && (match PySem.W.clsIn K C with | some cd => (cd.mro == .ref C :: .ref M :: bmV) && cd.hasDict | none => false))
theorem xOk_is {K : PySem.W.Frag} {M C : Addr} (h : xOk K M C = true) : PySem.W.hasDictIn K C = true ∧ PySem.W.findIn K (.ref C) "at" = some none ∧ XBase K M ∧ XCls K C "at" := by
 unfold xOk at h
 simp only [Bool.and_eq_true, beq_iff_eq] at h
 obtain ⟨⟨⟨h1, h2⟩, ⟨h3, h4⟩, h5⟩, h6, h7⟩ := h
 refine ⟨h1, h2, ⟨h3, h4, ?_⟩, ⟨h6, ?_, h2⟩⟩
 ·cases z : PySem.W.findCls K (.ref M) (.type "type") "__init__" with
  | none => rw [z] at h5; cases h5
  | some r =>
   rw [z] at h5
   split at h5
   ·rename_i n e
    refine ⟨r, rfl, ?_⟩
    cases e
    rw [eq_of_beq h5]
   ·cases h5
 ·cases z : PySem.W.clsIn K C with
  | none => rw [z] at h7; cases h7
  | some cd =>
   rw [z] at h7
   simp only [Bool.and_eq_true, beq_iff_eq] at h7
   exact ⟨cd, M, rfl, h7.1, h7.2⟩
abbrev FnAt (x : Str) (st : Stmt) (kV dc pm : Value) (an : Option Addr) (cd ct : Value) : FuncData := PySem.W.fnOf x x (defArgs st) (defBody st) (defScope st) .none kV dc pm an cd ct
open PySem.W in
theorem all_mk {l : OpenLaw} {w : World} {K : Frag} {h : Heap} {mg : Str → Option Value} {fa c TB : Addr} (X : K.In h) (G : h.Ns mainGlobals mg) (hfa : mg "law" = some (.ref fa)) (ht : tabIn K "law" = some (c, TB))
  {f40 : Addr} {od40 an40 : Option Addr} {sl40 : Array (Option Value)} {oc40 kV40 dc40 pm40 cd40 ct40 : Value}
  (a0 : D4 K "_law_caps" s__law_caps)
  (a1 : D4 K "_law_cell" s__law_cell)
  (a2 : D4 K "_law_row" s__law_row)
  (a3 : D4 K "_law_due" s__law_due)
  (a4 : D4 K "_law_draw" s__law_draw)
  (a5 : D4 K "_law_firing" s__law_firing)
  (a6 : D4 K "_law_odd" s__law_odd)
  (a7 : D4 K "_law_pen" s__law_pen)
  (a8 : D4 K "_law_plant" s__law_plant)
  (a9 : D4 K "_law_kind" s__law_kind)
  (a10 : D4 K "_law_said" s__law_said)
  (a11 : D4 K "_law_story" s__law_story)
  (a12 : D4 K "_law_text" s__law_text)
  (a13 : D4 K "_law_bent" s__law_bent)
  (a14 : D4 K "_law_texts" s__law_texts)
  (a15 : D4 K "cap_under" s_cap_under)
  (a16 : D4 K "words_for" s_words_for)
  (a17 : D4 K "caps_in" s_caps_in)
  (a18 : D4 K "is_tuple_of" s_is_tuple_of)
  (a19 : D4 K "is_whole" s_is_whole)
  (a20 : D4 K "is_whole_from" s_is_whole_from)
  (a21 : D4 K "is_fault" s_is_fault)
  (a22 : D4 K "is_make_and_coal" s_is_make_and_coal)
  (a23 : D4 K "are_boilers" s_are_boilers)
  (a24 : D4 K "is_engine" s_is_engine)
  (a25 : D4 K "are_engines" s_are_engines)
  (a26 : D4 K "is_main" s_is_main)
  (a27 : D4 K "is_plant" s_is_plant)
  (a28 : D4 K "need_plant" s_need_plant)
  (a29 : D4 K "is_story" s_is_story)
  (a30 : D4 K "need_story" s_need_story)
  (a31 : D4 K "caps_of" s_caps_of)
  (a32 : D4 K "is_number_text" s_is_number_text)
  (a33 : D4 K "is_row_text" s_is_row_text)
  (a34 : D4 K "firing_read" s_firing_read)
  (a35 : D4 K "is_row" s_is_row)
  (a36 : D4 K "is_firing_within" s_is_firing_within)
  (a37 : D4 K "is_firing" s_is_firing)
  (a38 : D4 K "need_firing" s_need_firing)
  (a39 : D4 K "firing_text" s_firing_text)
  (a40 : nsIn K mainGlobals "law" = some (some (.ref f40))) (l40 : K.lookup f40 = some ⟨oc40, od40, .func (FnAt "law" s_law kV40 dc40 pm40 an40 cd40 ct40), sl40⟩) (c40 : codeIn K cd40 "law" = true) (k40 : keepIn K (.ref f40) = true)
  (z0 : nsIn K mainGlobals "ValueError" = some none)
  (z1 : nsIn K mainGlobals "all" = some none)
  (z2 : nsIn K mainGlobals "bool" = some none)
  (z3 : nsIn K mainGlobals "divmod" = some none)
  (z4 : nsIn K mainGlobals "enumerate" = some none)
  (z5 : nsIn K mainGlobals "int" = some none)
  (z6 : nsIn K mainGlobals "isinstance" = some none)
  (z7 : nsIn K mainGlobals "len" = some none)
  (z8 : nsIn K mainGlobals "max" = some none)
  (z9 : nsIn K mainGlobals "min" = some none)
  (z10 : nsIn K mainGlobals "range" = some none)
  (z11 : nsIn K mainGlobals "repr" = some none)
  (z12 : nsIn K mainGlobals "str" = some none)
  (z13 : nsIn K mainGlobals "tuple" = some none)
  (z14 : nsIn K mainGlobals "zip" = some none)
  {t0 : Tok} (q0 : nsIn K mainGlobals "MOST_BOILERS" = some (some (.int 4 t0)))
  {t1 : Tok} (q1 : nsIn K mainGlobals "MOST_ENGINES" = some (some (.int 4 t1)))
  {t2 : Tok} (q2 : nsIn K mainGlobals "MOST_FAULTS" = some (some (.int 4 t2)))
  {t3 : Tok} (q3 : nsIn K mainGlobals "MOST_HOURS" = some (some (.int 8 t3)))
  {t4 : Tok} (q4 : nsIn K mainGlobals "MOST_UNITS" = some (some (.int 9 t4)))
  {t5 : Tok} (q5 : nsIn K mainGlobals "MOST_EXTRA" = some (some (.int 20 t5)))
  {t6 : Tok} (q6 : nsIn K mainGlobals "MOST_IN_MAIN" = some (some (.int 40 t6)))
  {M d0 d1 d2 d3 d4 d5 d6 d7 d8 d9 d10 d11 d12 d13 d14 d15 d16 d17 d18 : Addr}
  (y0 : nsIn K mainGlobals "NoPlant" = some (some (.ref d0)))
  (y1 : nsIn K mainGlobals "NoStory" = some (some (.ref d1)))
  (y2 : nsIn K mainGlobals "NoFiring" = some (some (.ref d2)))
  (y3 : nsIn K mainGlobals "NoHour" = some (some (.ref d3)))
  (y4 : nsIn K mainGlobals "NoBoiler" = some (some (.ref d4)))
  (y5 : nsIn K mainGlobals "NoPrices" = some (some (.ref d5)))
  (y6 : nsIn K mainGlobals "NoWay" = some (some (.ref d6)))
  (y7 : nsIn K mainGlobals "NoSet" = some (some (.ref d7)))
  (y8 : nsIn K mainGlobals "NoTanks" = some (some (.ref d8)))
  (y9 : nsIn K mainGlobals "NoPump" = some (some (.ref d9)))
  (y10 : nsIn K mainGlobals "NoFeeding" = some (some (.ref d10)))
  (y11 : nsIn K mainGlobals "NoReadings" = some (some (.ref d11)))
  (y12 : nsIn K mainGlobals "NoStart" = some (some (.ref d12)))
  (y13 : nsIn K mainGlobals "NoShifts" = some (some (.ref d13)))
  (y14 : nsIn K mainGlobals "NoBook" = some (some (.ref d14)))
  (y15 : nsIn K mainGlobals "NoAmount" = some (some (.ref d15)))
  (y16 : nsIn K mainGlobals "NoDeed" = some (some (.ref d16)))
  (y17 : nsIn K mainGlobals "NoLine" = some (some (.ref d17)))
  (y18 : nsIn K mainGlobals "NoText" = some (some (.ref d18)))
  (yM : nsIn K mainGlobals "MainError" = some (some (.ref M))) (yB : mroIn K M (.type "BaseException") = some true) (yT : typeIn K (.ref M) = some (.type "type"))
  (wT : wordOk K M [d0, d1, d2, d3, d4, d5, d6, d7, d8, d9, d10, d11, d12, d13, d14, d15, d16, d17, d18] 18 = true) (xk : xOk K M d18 = true) (aI : DI K d18)
  : ∃ fd : FuncData, (∀ (s : Shared) (v : Value), BindsTo s fd ⟨[v], []⟩ [("_law_script", v)]) ∧ ∀ base : Heap, K.In base → base.Ns mainGlobals mg → CodeHd base c TB → base.BuiltinsAt mg TB → FnOk l.prog w K mg base CX0 13 fa fd ["_law_script"] (sp_law K TB) := by
 have e := hfa.symm.trans (PySem.W.mg_of X G a40)
 cases e
 have T : Tx mg := ⟨mg_none_of X G z0, mg_none_of X G z1, mg_none_of X G z2, mg_none_of X G z3, mg_none_of X G z4, mg_none_of X G z5, mg_none_of X G z6, mg_none_of X G z7, mg_none_of X G z8, mg_none_of X G z9, mg_none_of X G z10, mg_none_of X G z11, mg_none_of X G z12, mg_none_of X G z13, mg_none_of X G z14, ⟨_, mg_of X G q0⟩, ⟨_, mg_of X G q1⟩, ⟨_, mg_of X G q2⟩, ⟨_, mg_of X G q3⟩, ⟨_, mg_of X G q4⟩, ⟨_, mg_of X G q5⟩, ⟨_, mg_of X G q6⟩⟩
 have C : Tc K mg M [d0, d1, d2, d3, d4, d5, d6, d7, d8, d9, d10, d11, d12, d13, d14, d15, d16, d17, d18] := ⟨mg_of X G y0, mg_of X G y1, mg_of X G y2, mg_of X G y3, mg_of X G y4, mg_of X G y5, mg_of X G y6, mg_of X G y7, mg_of X G y8, mg_of X G y9, mg_of X G y10, mg_of X G y11, mg_of X G y12, mg_of X G y13, mg_of X G y14, mg_of X G y15, mg_of X G y16, mg_of X G y17, mg_of X G y18, mg_of X G yM, yB, yT, wT, (xOk_is xk).1, (xOk_is xk).2.1, (xOk_is xk).2.2.1, (xOk_is xk).2.2.2⟩
 obtain ⟨fI, ocI, odI, anI, slI, kVI, dcI, pmI, cdI, ctI, bI, eI, hI, lI, cI, kI⟩ := aI
 have ec : cd40 = .ref c := tab_code a40 l40 ht
 subst ec
 have F40 : FunC K "law" "law" s_law fa _ c := ⟨_, _, _, _, _, _, _, _, rfl, l40, c40⟩
 refine ⟨PySem.W.fnOf "law" "law" (defArgs s_law) (defBody s_law) (defScope s_law) .none kV40 dc40 pm40 an40 (.ref c) ct40, fun s v => .of_eq rfl, fun base _ _ hC hBu => ?_⟩
 have XI : Xi l.prog w K mg base 1 "NoText" d18 "at" := ⟨⟨fI, _, ["self", "at"], ok_init (fun_mk lI cI kI) C eI, eI, hI, (fun_mk lI cI kI).binds fun _ _ _ _ _ _ us hl => match us, hl with | [_, _], _ => rfl⟩, mg_of X G y18⟩
 have B__law_caps := ok__law_caps (P := l.prog) (w := w) (base := base) (df_2 X G a0) T
 have B__law_cell := ok__law_cell (P := l.prog) (w := w) (base := base) (df_2 X G a1) T
 have B__law_row := ok__law_row (P := l.prog) (w := w) (base := base) (df_2 X G a2) T
 have B__law_due := ok__law_due (df_2 X G a3) T B__law_row
 have B__law_draw := ok__law_draw (P := l.prog) (w := w) (base := base) (df_2 X G a4) T
 have B__law_firing := ok__law_firing (df_2 X G a5) T B__law_draw
 have B__law_odd := ok__law_odd (df_1 X G a6) T B__law_draw
 have B__law_pen := ok__law_pen (P := l.prog) (w := w) (base := base) (df_1 X G a7) T
 have B__law_plant := ok__law_plant (df_1 X G a8) T B__law_draw
 have B__law_kind := ok__law_kind (P := l.prog) (w := w) (base := base) (df_1 X G a9) T C
 have B__law_said := ok__law_said (df_1 X G a10) C B__law_kind
 have B__law_story := ok__law_story (df_2 X G a11) T B__law_draw
 have B__law_text := ok__law_text (P := l.prog) (w := w) (base := base) (df_1 X G a12) T
 have B__law_bent := ok__law_bent (df_2 X G a13) T B__law_draw
 have B__law_texts := ok__law_texts (df_3 X G a14) T B__law_bent B__law_text
 have B_cap_under := ok_cap_under (P := l.prog) (w := w) (base := base) (df_2 X G a15) T
 have B_words_for := ok_words_for (P := l.prog) (w := w) (base := base) (df_3 X G a16) T
 have B_caps_in := ok_caps_in (df_3 X G a17) T B_cap_under B_words_for
 have B_is_tuple_of := ok_is_tuple_of (P := l.prog) (w := w) (base := base) (df_3 X G a18) T
 have B_is_whole := ok_is_whole (P := l.prog) (w := w) (base := base) (df_1 X G a19) T
 have B_is_whole_from := ok_is_whole_from (df_3 X G a20) T B_is_whole
 have B_is_fault := ok_is_fault (df_3 X G a21) T B_is_tuple_of B_is_whole_from
 have B_is_make_and_coal := ok_is_make_and_coal (df_1 X G a22) T B_is_tuple_of B_is_whole_from
 have B_are_boilers := ok_are_boilers (df_1 X G a23) T B_is_make_and_coal B_is_tuple_of
 have B_is_engine := ok_is_engine (df_1 X G a24) T B_is_tuple_of B_is_whole_from
 have B_are_engines := ok_are_engines (df_1 X G a25) T B_is_engine B_is_tuple_of
 have B_is_main := ok_is_main (df_1 X G a26) T B_is_tuple_of B_is_whole_from
 have B_is_plant := ok_is_plant (df_1 X G a27) T B_are_boilers B_are_engines B_is_main B_is_tuple_of
 have B_need_plant := ok_need_plant (df_1 X G a28) T B_is_plant
 have B_is_story := ok_is_story (df_2 X G a29) T B_is_fault B_is_tuple_of B_is_whole_from B_need_plant
 have B_need_story := ok_need_story (df_2 X G a30) T B_is_story
 have B_caps_of := ok_caps_of (df_2 X G a31) T B_caps_in B_need_story
 have B_is_number_text := ok_is_number_text (P := l.prog) (w := w) (base := base) (df_2 X G a32) T
 have B_is_row_text := ok_is_row_text (df_2 X G a33) T B_is_number_text
 have BE_firing_read := okE_firing_read (df_3 X G a34) T C XI B_caps_of B_is_row_text
 have B_is_row := ok_is_row (df_2 X G a35) T B_is_tuple_of B_is_whole_from
 have B_is_firing_within := ok_is_firing_within (df_2 X G a36) T B_is_row B_is_tuple_of
 have B_is_firing := ok_is_firing (df_3 X G a37) T B_caps_of B_is_firing_within
 have B_need_firing := ok_need_firing (df_3 X G a38) T B_is_firing
 have B_firing_text := ok_firing_text (df_3 X G a39) T B_need_firing
 exact ok_law F40 hC hBu T C B__law_caps B__law_cell B__law_due B__law_firing B__law_odd B__law_pen B__law_plant B__law_story B__law_text B__law_texts B_firing_text B__law_said BE_firing_read
end MF
namespace PySem.W.Fast
def tw5400027604411802493:=0
def tw1515392329702626832:=0
def tw9250477279849049247:=0
def tw6524939905930399119:=0
def tw12804271605668084950:=0
def tw4584832452427761286:=0
def tw11740978394640555450:=0
def tw17309587993681607458:=0
def tw7681048438069604701:=0
def tw12612816599916007303:=0
def tw18044434764882929661:=0
def tw17131683407020749057:=0
def tw342281028847128289:=0
def tw8170576181219625343:=0
def tw13477289941096767127:=0
def tw14848353267627619531:=0
def tw14089974549623551774:=0
def tw11343431540669395109:=0
def tw3010008487978001784:=0
def tw17606092885346984018:=0
def tw18445117544842053714:=0
def tw9157457148648881151:=0
def tw6617130253760923941:=0
def tw9403940351009641901:=0
def tw3058459600449470443:=0
def tw13961971692740217832:=0
def tw9110266390325399780:=0
def tw6088748503998299907:=0
def tw8213326748442736535:=0
def tw7123994807008896498:=0
def tw4223289565926856332:=0
def tw4688931772447257925:=0
def tw18415697370955878335:=0
def tw11735799986048724576:=0
def tw13031070597178654467:=0
def tw2712543401903441304:=0
def tw13038358728956080646:=0
def tw11131378982974541684:=0
def tw18240297327977174612:=0
def tw15589032264340913659:=0
def tw11749546986102888309:=0
def tw3733093854851933819:=0
def tw803430525336497035:=0
def tw4021191649587590306:=0
def tw15203195945478848588:=0
def tw9490999500168940070:=0
def tw12898586669861369704:=0
def tw11145603347894811489:=0
def tw13541168278111596139:=0
def tw5236144755027052855:=0
def tw2054075573070097081:=0
def tw14941145458045724762:=0
def tw14569333094831210077:=0
def tw16104970396432314864:=0
def tw3655512589702420574:=0
def tw15386796390881018992:=0
def tw3028314947192509857:=0
def tw13794243535606836992:=0
def tw15893444205641841482:=0
def tw13539145602155712673:=0
def tw16598021591611116769:=0
def tw13014833551595357368:=0
def tw11892201832380264850:=0
def tw205885864930654964:=0
def tw16668100844019232093:=0
def tw2024997661906699582:=0
def tw13271155709584475468:=0
def tw92774414907809850:=0
def tw12231646540715328026:=0
def tw9449644655469001560:=0
def tw387508084700855956:=0
def tw10047421289897078350:=0
def tw9216557163794961279:=0
def tw11614808520900864833:=0
def tw7546523856751896392:=0
def tw9626606902555999960:=0
def tw17018793294371109578:=0
def tw9747082647794161869:=0
def tw10675439602322038260:=0
def tw9377299652418115454:=0
def tw13212329780765706773:=0
def tw13648159753465951067:=0
def tw8275384922239706118:=0
def tw9825944575505389043:=0
def tw11093029883108651766:=0
def tw1406183145485923205:=0
def tw5598378799601934940:=0
def tw5417640149009911033:=0
def tw12243780716627835864:=0
def tw5518915849621794043:=0
def tw3296876045925598527:=0
def tw8061665231439724805:=0
def tw8616289880320256570:=0
def tw6108217138712029719:=0
def tw13251927470427554538:=0
def tw17898034040254090514:=0
def tw4267195608987705544:=0
def tw16000416084581611260:=0
def tw1442486315277473791:=0
def tw15437121014384031291:=0
def tw16665537051497923546:=0
def tw18045877202367346975:=0
def tw18280027004611947728:=0
def tw2923217680759054768:=0
def tw5836126531020681999:=0
def tw14298513274352763413:=0
def tw10983524574503589372:=0
def tw12075329458456087806:=0
def tw1870943334163079995:=0
def tw213059352908750803:=0
def tw13948150008338865741:=0
def tw13107557205654807925:=0
def tw8278970605485986448:=0
def tw8397990168145336815:=0
def tw16138518212788864381:=0
def tw11661445449603655258:=0
def tw244300099017589573:=0
def tw1428466466387197002:=0
def tw1535994569545541102:=0
def tw6638172715739577324:=0
def tw17285686592499803425:=0
def tw4894119011323593852:=0
def tw18399280939323906457:=0
def tw2843090464450134981:=0
def tw1051285628090783342:=0
def tw136750787924691201:=0
def tw2710669118337051772:=0
def tw17229976853428085965:=0
def tw6681890708257399128:=0
def tw5911994551819458007:=0
def tw7093587248541212389:=0
end PySem.W.Fast
open PySem PySem.W PyProof.Rows
set_option maxRecDepth 100000 in
set_option maxHeartbeats 0 in
theorem PySem.Challenge.cw_mainfires_k91_firings_as_texts_holds : PySem.Challenge.rw_mainfires_k91_firings_as_texts.Holds := by
 w_on; o_law; k_head; (case hw => w_witness2)
 k_fill
 refine L2.walk_ofT (l := PySem.Challenge.rw_mainfires_k91_firings_as_texts) (n := 63) (k := 13) (x := "_law_script") (xT := "law") (CX := fun _ => L2.CX0) (sp := MF.sp_law) rfl (by decide) rfl ⟨rfl, by decide, by decide, rfl⟩ (fun w h Y => PySem.W.km_in_of Y) rfl (fun w => by kernel_rfl) (fun w => by kernel_rfl) ?F (fun _ _ a _ ns hl hT hS => ⟨ns, hS, hl, hT, fun _ => rfl⟩) (fun _ _ _ _ _ z => z)
 case F =>
  intro w mg fa h c TB KX G hmg ht
  refine' MF.all_mk KX G hmg ht ?_ ?_ ?_ ?_ ?_ ?_ ?_ ?_ ?_ ?_ ?_ ?_ ?_ ?_ ?_ ?_ ?_ ?_ ?_ ?_ ?_ ?_ ?_ ?_ ?_ ?_ ?_ ?_ ?_ ?_ ?_ ?_ ?_ ?_ ?_ ?_ ?_ ?_ ?_ ?_ ?_ ?_ ?_ ?_ ?_ ?_ ?_ ?_ ?_ ?_ ?_ ?_ ?_ ?_ ?_ ?_ ?_ ?_ ?_ ?_ ?_ ?_ ?_ ?_ ?_ ?_ ?_ ?_ ?_ ?_ ?_ ?_ ?_ ?_ ?_ ?_ ?_ ?_ ?_ ?_ ?_ ?_ ?_ ?_ ?_ ?_ ?_ ?_ ?_ ?_ ?_
  all_goals first | refine' MF.d4_mk ?_ ?_ ?_ ?_ | refine' MF.di_mk ?_ ?_ ?_ ?_ ?_ ?_ | skip
  any_goals k_is
  try any_goals k_exc
  all_goals kernel_rfl

end
