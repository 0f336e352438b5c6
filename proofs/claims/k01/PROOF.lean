import PyProof.Rows.All
import Wide.All
import OpenK.AllK
import Wide.FinOn
import Lean
import PyProof.EqAt
import PyProof.EqKinds
import PyProof.TupleCall
import PySem.SetOps
import PyProof.SetScanFacts
import PyProof.TupleKey
import PyProof.SetKind
import PyProof.SetRoads
import PyProof.IsRules
import PyProof.ZipIter
import PyProof.TupleIter
import PyProof.ListMulRoad
import PyProof.FactsAll.tuple
import PyProof.ListRange
import PySem.Challenge.RW_purseborder_k01_what_is_a_floor
set_option Elab.async false
set_option linter.all false
set_option maxRecDepth 100000
noncomputable section
namespace L2
open PySem PySem.Spec PyProof.Rows
abbrev Key := Sum Int Str
noncomputable def zqx : Key -> Value -> Bool
 | .inl k, v => Value.isInt k v
 | .inr x, v => Value.isStrOf x v
noncomputable def zsI (w : World) : Key -> Int
 | .inl k => hashInt k
 | .inr x => hashStr w x
theorem zbs : ∀ {k : Key} {v : Value}, zqx k v = true -> (∃ i t, k = Sum.inl i /\ v = Value.int i t) \/ (∃ x t, k = Sum.inr x /\ v = Value.str x t)
 | .inl i, v, h => by
  obtain ⟨t, e⟩ := Value.isInt_shape (k := i) (v := v) h
  exact .inl ⟨i, t, rfl, e⟩
 | .inr x, v, h => by
  obtain ⟨t, e⟩ := Value.isStrOf_shape (x := x) (v := v) h
  exact .inr ⟨x, t, rfl, e⟩
theorem zqw (a b : Int) : decide ((Sum.inl a : Key) = Sum.inl b) = (a == b) := by
 by_cases e : a = b
 ·subst e; simp
 ·have h : ¬ (Sum.inl a : Key) = Sum.inl b := fun q => e (Sum.inl.inj q)
  rw [decide_eq_false h]
  exact (beq_eq_false_iff_ne.mpr e).symm
theorem zqt (a b : Str) : decide ((Sum.inr a : Key) = Sum.inr b) = decide (a = b) := by
 by_cases e : a = b
 ·subst e; simp
 ·have h : ¬ (Sum.inr a : Key) = Sum.inr b := fun q => e (Sum.inr.inj q)
  rw [decide_eq_false h, decide_eq_false e]
theorem zqv (a : Int) (b : Str) : decide ((Sum.inl a : Key) = Sum.inr b) = false := decide_eq_false (fun q => nomatch q)
theorem zqu (a : Str) (b : Int) : decide ((Sum.inr a : Key) = Sum.inl b) = false := decide_eq_false (fun q => nomatch q)
noncomputable def ziN (prog : Program) (w : World) : PySem.KeyKind prog w Key where
 is := zqx
 hash := zsI w
 inj := fun v a b ha hb => by
  rcases zbs ha with ⟨i, t, rfl, rfl⟩ | ⟨x, t, rfl, rfl⟩
  ·rcases zbs hb with ⟨j, u, rfl, e⟩ | ⟨y, u, rfl, e⟩
   ·injection e with e1 _; rw [e1]
   ·exact nomatch e
  ·rcases zbs hb with ⟨j, u, rfl, e⟩ | ⟨y, u, rfl, e⟩
   ·exact nomatch e
   ·injection e with e1 _; rw [e1]
 byValue := fun k v h => by
  rcases zbs h with ⟨i, t, rfl, rfl⟩ | ⟨x, t, rfl, rfl⟩ <;> rfl
 pyHash := fun hv h => by
  rcases zbs hv with ⟨i, t, rfl, rfl⟩ | ⟨x, t, rfl, rfl⟩
  ·exact wpAny_pyHash_int h
  ·exact wpAny_pyHash_str h
 eqBool := fun hu hv h => by
  rcases zbs hu with ⟨i, t, rfl, rfl⟩ | ⟨x, t, rfl, rfl⟩
  ·rcases zbs hv with ⟨j, u, rfl, rfl⟩ | ⟨y, u, rfl, rfl⟩
   ·rw [zqw] at h; exact wpAny_eqBool_int h
   ·rw [zqv] at h; exact SeqAt.EqAt.int_str i t y u _ _ _ _ h
  ·rcases zbs hv with ⟨j, u, rfl, rfl⟩ | ⟨y, u, rfl, rfl⟩
   ·rw [zqu] at h; exact SeqAt.EqAt.str_int x t j u _ _ _ _ h
   ·rw [zqt] at h; exact wpAny_eqBool_str h
 «strs» := fun k x t v h => by
  rcases zbs h with ⟨i, u, rfl, e⟩ | ⟨y, u, rfl, e⟩
  ·exact nomatch e
  ·injection e with e1 _
   subst e1
   cases v <;> rfl
end L2
namespace L2
open PySem PySem.Spec PyProof.Rows
inductive V where
 | non | bl (b : Bool) | int (i : Int) | str (x : Str) | byt (b : Array UInt8) | flt (b : UInt64) | ref (a : Addr) | ty (n : String)
 deriving DecidableEq
noncomputable def RelV : V -> Value -> Prop
 | .non, u => u = Value.none
 | .bl b, u => u = Value.bool b
 | .int i, u => ∃ t, u = Value.int i t
 | .str x, u => ∃ t, u = Value.str x t
 | .byt b, u => ∃ t, u = Value.bytes b t
 | .flt b, u => ∃ t, u = Value.float b t
 | .ref a, u => u = Value.ref a
 | .ty n, u => u = Value.type n
abbrev Vals : List V -> List Value -> Prop := Paired RelV
theorem Vals.length {xs : List V} {us : List Value} (r : Vals xs us) : xs.length = us.length := Paired.length r
theorem Vals.get : ∀ {xs : List V} {us : List Value} {i : Nat} {x : V}, Vals xs us -> xs[i]? = some x -> ∃ u, us[i]? = some u /\ RelV x u
 | _, _, _, _, .nil, e => by simp at e
 | _, _, 0, _, .cons r _, e => by simp at e; subst e; exact ⟨_, rfl, r⟩
 | _, _, i + 1, x, .cons _ t, e => by
  obtain ⟨u, h1, h2⟩ := Vals.get (i := i) (x := x) t (by simpa using e)
  exact ⟨u, by simpa using h1, h2⟩
theorem Vals.set {x : V} {u : Value} (r : RelV x u) : ∀ {xs : List V} {us : List Value} (i : Nat), Vals xs us -> Vals (xs.set i x) (us.set i u)
 | _, _, _, .nil => .nil
 | _, _, 0, .cons _ t => .cons r t
 | _, _, i + 1, .cons q t => .cons q (Vals.set r i t)
theorem Vals.append : ∀ {xs ys : List V} {us ws : List Value}, Vals xs us -> Vals ys ws -> Vals (xs ++ ys) (us ++ ws)
 | _, _, _, _, .nil, s => s
 | _, _, _, _, .cons r t, s => .cons r (Vals.append t s)
theorem Vals.take : ∀ {xs : List V} {us : List Value} (n : Nat), Vals xs us -> Vals (xs.take n) (us.take n)
 | _, _, 0, _ => .nil
 | _, _, _ + 1, .nil => .nil
 | _, _, n + 1, .cons r t => .cons r (Vals.take n t)
theorem Vals.drop : ∀ {xs : List V} {us : List Value} (n : Nat), Vals xs us -> Vals (xs.drop n) (us.drop n)
 | _, _, 0, r => r
 | _, _, _ + 1, .nil => .nil
 | _, _, n + 1, .cons _ t => Vals.drop n t
noncomputable def zsm : Option V -> Option Value -> Prop
 | some v, some u => RelV v u
 | none, none => True
 | _, _ => False
def KV {κ : Type} : List (κ × V) -> List (κ × Value) -> Prop := Paired fun (p : κ × V) (q : κ × Value) => p.1 = q.1 /\ RelV p.2 q.2
noncomputable def kV : Key -> V
 | .inl i => .int i
 | .inr x => .str x
inductive HO where
 /-- a list -/
 | lst (xs : List V)
 /-- a tuple (never changes) -/
 | tup (xs : List V)
 /-- a dict whose keys are ints and texts; one whose keys are tuples of ints and texts (the empty one is both) -/
 | dK (kvs : List (Key × V)) | dT (kvs : List (List Key × V))
 /-- a set of ints: its members, its size -/
 | set (S : Int -> Bool) (n : Nat)
 /-- an instance of the class at C, its dict at dx, its attributes -/
 | ins (C dx : Addr) (fs : List (Str × V))
 /-- the dict of the instance at x -/
 | own (x : Addr)
 /-- the dict of an exception -/
 | xd (fs : List (Str × V))
 /-- a bound method, f of x -/
 | met (f x : Addr)
 /-- a range object lo, lo + 1, .. below hi -/
 | rng (lo hi : Int)
 /-- a thing that is known to the object (the script; a dict while a loop walks it): read, never written while it is so -/
 | frz (o : Obj) (u : HO)
 /-- a code object's table -/
 | tbl (ps : Array Value)
 /-- any other thing, by what is true of its one object (a def of one's own: zet a S n := HO.ext fun h => ..) -/
 | ext (φ : Heap -> Prop)
abbrev Hp := Addr -> Option HO
noncomputable def upd (H : Hp) (a : Addr) (o : HO) : Hp := fun b => if b = a then some o else H b
theorem zaA {H : Hp} {a : Addr} {o : HO} : upd H a o a = some o := by unfold upd; rw [if_pos rfl]
theorem zbo {H : Hp} {a b : Addr} {o : HO} (h : b ≠ a) : upd H a o b = H b := by unfold upd; rw [if_neg h]
theorem zqp {H : Hp} {a b : Addr} {o u : HO} (h : H a = some o) (h' : H b = some u) (d : o ≠ u) : a ≠ b := by
 intro e; subst e; rw [h] at h'; exact d (Option.some.inj h')
theorem zbP {H : Hp} {a b : Addr} {o : HO} (h : H a = some o) (h' : H b = none) : a ≠ b := by
 intro e; subst e; rw [h] at h'; cases h'
section
variable (P : Program) (w : World)
noncomputable def zdk (H : Hp) (h : Heap) (a : Addr) : HO -> Prop
 | .lst xs => xs.length <= sizeLine /\ ∃ (its : List Value) (n : Nat), Vals xs its /\ h.get? a = some { cls := .type "list", data := .seq its.toArray n }
 | .tup xs => xs.length <= sizeLine /\ ∃ its : List Value, Vals xs its /\ IsTup h a its.toArray
 | .dK kvs => kvs.length <= sizeLine /\ (a == sysModules) = false /\ ∃ vs, KV kvs vs /\ h.DictOf (ziN P w) a vs
 | .dT kvs => kvs.length <= sizeLine /\ (a == sysModules) = false /\ ∃ xs : List (List Key × Addr × Value),
   Paired (fun (p : List Key × V) (q : List Key × Addr × Value) => p.1 = q.1 /\ H q.2.1 = some (.tup (p.1.map kV)) /\ RelV p.2 q.2.2) kvs xs /\
   ∃ o es ep, h.get? a = some o /\ o.ExactDict /\ o.data = .dict es ep /\ es.toList = xs.map (entryOfKey (tupleKind (ziN P w))) /\ (xs.map (·.1)).Nodup
 | .set S n => h.SetOf (intKind P w) a S n
 | .ins C dx fs => H dx = some (.own a) /\ fs.length <= 1000 /\ dx ≠ a /\ h.get? a = some (PySem.W.instObj C dx) /\
   ∃ mA, h.Ns1 dx mA /\ (∀ f, zsm (fs.lookup f) (mA f)) /\ PySem.Within mA (fs.map (·.1))
 | .own _ => ∃ o, h.get? a = some o
 | .xd fs => ∃ mA, h.Ns1 a mA /\ ∀ f, zsm (fs.lookup f) (mA f)
 | .rng lo hi => ∃ t u v, h.get? a = some { cls := .type "range", data := .fields #[.int lo t, .int hi u, .int 1 v] }
 | .frz o u => h.get? a = some o /\ zdk H h a u
 | .tbl ps => h.get? a = some { cls := .none, data := .fields ps }
 | .met f x => h.get? a = some (PySem.W.methodObj (.ref f) (.ref x))
 | .ext φ => φ h /\ (∃ o, h.get? a = some o) /\ ∀ h1 h2 : Heap, φ h1 -> (∀ o, h1.get? a = some o -> h2.get? a = some o) -> φ h2
def HOk (H : Hp) (h : Heap) : Prop := ∀ a o, H a = some o -> zdk P w H h a o
end
section
variable {P : Program} {w : World} {H H' : Hp} {h h' : Heap} {a : Addr} {o : HO}
theorem zdk.lt (x : zdk P w H h a o) : a < h.objs.size := by
 cases o with
 | lst xs => obtain ⟨_, _, _, _, e⟩ := x; exact Heap.lt_size e
 | tup xs => obtain ⟨_, _, _, p⟩ := x; exact p.lt
 | dK kvs => obtain ⟨_, _, _, _, o, _, _, e, _⟩ := x; exact Heap.lt_size e
 | dT kvs => obtain ⟨_, _, _, _, o, _, _, e, _⟩ := x; exact Heap.lt_size e
 | set S n => obtain ⟨o, _, _, _, e, _⟩ := x; exact Heap.lt_size e
 | ins C dx fs => obtain ⟨_, _, _, e, _⟩ := x; exact Heap.lt_size e
 | own y => obtain ⟨_, e⟩ := x; exact Heap.lt_size e
 | xd fs => obtain ⟨_, ⟨_, _, _, e, _⟩, _⟩ := x; exact Heap.lt_size e
 | rng lo hi => obtain ⟨_, _, _, e⟩ := x; exact Heap.lt_size e
 | frz ob u => obtain ⟨e, _⟩ := x; exact Heap.lt_size e
 | tbl ps => exact Heap.lt_size (show h.get? a = some _ from x)
 | met f y => exact Heap.lt_size (show h.get? a = some _ from x)
 | ext φ => obtain ⟨_, ⟨_, e⟩, _⟩ := x; exact Heap.lt_size e
theorem Paired.zrx {α β : Type} {F G : α -> β -> Prop} : ∀ {l₁ : List α} {l₂ : List β}, Paired F l₁ l₂ -> (∀ a b, F a b -> G a b) -> Paired G l₁ l₂
 | _, _, .nil, _ => .nil
 | _, _, .cons r t, f => .cons (f _ _ r) (Paired.zrx t f)
theorem zdk.zmb (x : zdk P w H h a o) (k : ∀ b u, (b = a \/ H b = some (.own a)) -> h.get? b = some u -> h'.get? b = some u)
  (ho : ∀ b, H b = some (.own a) -> H' b = some (.own a)) (ht : ∀ b xs, H b = some (.tup xs) -> H' b = some (.tup xs)) : zdk P w H' h' a o := by
 induction o with
 | lst xs => obtain ⟨z, its, n, r, e⟩ := x; exact ⟨z, its, n, r, k _ _ (.inl rfl) e⟩
 | tup xs => obtain ⟨z, its, r, ob, e, c⟩ := x; exact ⟨z, its, r, ob, k _ _ (.inl rfl) e, c⟩
 | dK kvs => obtain ⟨z, y, vs, r, ob, es, ep, e, c⟩ := x; exact ⟨z, y, vs, r, ob, es, ep, k _ _ (.inl rfl) e, c⟩
 | dT kvs =>
  obtain ⟨z, y, xs, r, ob, es, ep, e, c⟩ := x
  exact ⟨z, y, xs, Paired.zrx r fun p q z => ⟨z.1, ht _ _ z.2.1, z.2.2⟩, ob, es, ep, k _ _ (.inl rfl) e, c⟩
 | set S n => obtain ⟨ob, es, ep, t, e, c⟩ := x; exact ⟨ob, es, ep, t, k _ _ (.inl rfl) e, c⟩
 | ins C dx fs =>
  obtain ⟨d, z, ne, e, mA, ⟨od, es, ep, e2, c⟩, r⟩ := x
  exact ⟨ho _ d, z, ne, k _ _ (.inl rfl) e, mA, ⟨od, es, ep, k _ _ (.inr d) e2, c⟩, r⟩
 | own y => obtain ⟨ob, e⟩ := x; exact ⟨ob, k _ _ (.inl rfl) e⟩
 | xd fs => obtain ⟨mA, ⟨od, es, ep, e, c⟩, r⟩ := x; exact ⟨mA, ⟨od, es, ep, k _ _ (.inl rfl) e, c⟩, r⟩
 | rng lo hi => obtain ⟨t, u, v, e⟩ := x; exact ⟨t, u, v, k _ _ (.inl rfl) e⟩
 | frz ob u ih => obtain ⟨e, q⟩ := x; exact ⟨k _ _ (.inl rfl) e, ih q⟩
 | tbl ps =>
  have e : h.get? a = some { cls := .none, data := .fields ps } := x
  show h'.get? a = some { cls := .none, data := .fields ps }
  exact k a _ (.inl rfl) e
 | met f y =>
  have e : h.get? a = some (PySem.W.methodObj (.ref f) (.ref y)) := x
  show h'.get? a = some (PySem.W.methodObj (.ref f) (.ref y))
  exact k a _ (.inl rfl) e
 | ext φ => obtain ⟨p, ⟨o, e⟩, st⟩ := x; exact ⟨st _ _ p fun o q => k _ _ (.inl rfl) q, ⟨o, k _ _ (.inl rfl) e⟩, st⟩
theorem HOk.lt (x : HOk P w H h) (e : H a = some o) : a < h.objs.size := (x a o e).lt
theorem HOk.fresh (x : HOk P w H h) (e : h.objs.size <= a) : H a = none := by
 cases q : H a with
 | none => rfl
 | some u => exact absurd (Nat.lt_of_lt_of_le (x.lt q) e) (Nat.lt_irrefl _)
theorem HOk.kept (x : HOk P w H h) (k : ∀ b u, h.get? b = some u -> h'.get? b = some u) : HOk P w H h' := fun a o e =>
 (x a o e).zmb (fun b u _ q => k b u q) (fun _ q => q) fun _ _ q => q
theorem HOk.laid (x : HOk P w H h) (k : ∀ b u, h.get? b = some u -> h'.get? b = some u) (hp : h.objs.size <= a) (new : zdk P w (upd H a o) h' a o) : HOk P w (upd H a o) h' := fun b u e => by
 have hn := x.fresh hp
 by_cases hb : b = a
 ·subst hb; rw [zaA] at e; cases e; exact new
 ·rw [zbo hb] at e
  exact (x b u e).zmb (fun c v _ q => k c v q) (fun c q => by rw [zbo (zbP q hn)]; exact q) fun c xs q => by rw [zbo (zbP q hn)]; exact q
end
def Rd (H : Hp) (a : Addr) (u : HO) : Prop := H a = some u \/ ∃ o, H a = some (.frz o u)
theorem Rd.ok {P : Program} {w : World} {H : Hp} {h : Heap} {a : Addr} {u : HO} (r : Rd H a u) (x : HOk P w H h) : zdk P w H h a u := by
 rcases r with r | ⟨o, r⟩
 ·exact x a u r
 ·obtain ⟨_, q⟩ := x a _ r
  exact q
noncomputable def Mut : Option HO -> Prop
 | some (.lst _) => True
 | some (.dK _) => True
 | some (.dT _) => True
 | some (.set _ _) => True
 | some (.ins _ _ _) => True
 | some (.ext _) => True
 | _ => False
section
variable {P : Program} {w : World} {H : Hp} {h h' : Heap} {x e : Addr} {o' : HO}
theorem HOk.write (ok : HOk P w H h) (mu : Mut (H x)) (he : e = x \/ H e = some (.own x)) (k : ∀ b u, b ≠ e -> h.get? b = some u -> h'.get? b = some u) (heo : ∃ u, h'.get? e = some u)
  (new : zdk P w (upd H x o') h' x o') : HOk P w (upd H x o') h' := fun b u q => by
 have nown : ∀ c y, H c = some (.own y) -> c ≠ x := fun c y r z => by subst z; rw [r] at mu; exact mu
 have ntup : ∀ c xs, H c = some (.tup xs) -> c ≠ x := fun c xs r z => by subst z; rw [r] at mu; exact mu
 by_cases hb : b = x
 ·subst hb; rw [zaA] at q; cases q; exact new
 ·rw [zbo hb] at q
  by_cases hbe : b = e
  ·have q' : H b = some (.own x) := by
    rcases he with z | z
    ·exact absurd (hbe.trans z) hb
    ·rw [hbe]; exact z
   rw [q] at q'; cases q'
   obtain ⟨v, hv⟩ := heo
   exact ⟨v, by rw [hbe]; exact hv⟩
  ·refine (ok b u q).zmb (fun c v hc r => k c v ?_ r) (fun c r => by rw [zbo (nown c b r)]; exact r) fun c xs r => by rw [zbo (ntup c xs r)]; exact r
   rcases hc with rfl | hc
   ·exact hbe
   ·rintro rfl
    rcases he with z | z
    ·exact nown c b hc z
    ·rw [hc] at z; cases z; exact hb rfl
end
structure Un (fs ex : List Addr) (H H' : Hp) (h h' : Heap) : Prop where
 keep : ∀ b o, h.get? b = some o -> H b = none -> b ∉ fs -> b ∉ ex -> h'.get? b = some o
 slot : ∀ b o, h.get? b = some o -> H b = none -> b ∈ fs -> b ∉ ex -> ∃ sl, h'.get? b = some { o with slots := sl }
 free : ∀ b o, h.get? b = some o -> H b = none -> b ∉ ex -> H' b = none
 there : ∀ b o, h.get? b = some o -> b ∉ ex -> ∃ o', h'.get? b = some o'
 zl2 : ∀ b xs, H b = some (.tup xs) -> H' b = some (.tup xs)
 zmN : ∀ b o u, H b = some (.frz o u) -> H' b = some (.frz o u)
 znd : ∀ b ps, H b = some (.tbl ps) -> ∃ more, H' b = some (.tbl (ps ++ more))
section
variable {fs fs' ex ex' : List Addr} {H H1 H2 : Hp} {h h1 h2 h' : Heap} {a x e : Addr} {o : HO}
theorem Un.any (u : Un fs ex H H1 h h1) {b : Addr} {ob : Obj} (q : h.get? b = some ob) (n : H b = none) (hx : b ∉ ex) : ∃ sl, h1.get? b = some { ob with slots := sl } := by
 by_cases hb : b ∈ fs
 ·exact u.slot b ob q n hb hx
 ·exact ⟨ob.slots, u.keep b ob q n hb hx⟩
theorem Un.kept (k : ∀ b u, h.get? b = some u -> h'.get? b = some u) : Un fs ex H H h h' :=
 ⟨fun b ob q _ _ _ => k b ob q, fun b ob q _ _ _ => ⟨ob.slots, k b ob q⟩, fun _ _ _ n _ => n, fun b ob q _ => ⟨ob, k b ob q⟩, fun _ _ q => q, fun _ _ _ q => q, fun _ ps q => ⟨#[], by rw [q]; simp⟩⟩
theorem Un.refl : Un fs ex H H h h := Un.kept fun _ _ q => q
theorem Un.laid (k : ∀ b u, h.get? b = some u -> h'.get? b = some u) (hp : h.objs.size <= a) (hn : H a = none) : Un fs ex H (upd H a o) h h' where
 keep := fun b u q _ _ _ => k b u q
 slot := fun b u q _ _ _ => ⟨u.slots, k b u q⟩
 free := fun b u q n _ => by rw [zbo (Nat.ne_of_lt (Nat.lt_of_lt_of_le (Heap.lt_size q) hp))]; exact n
 there := fun b u q _ => ⟨u, k b u q⟩
 zl2 := fun b xs q => by rw [zbo (zbP q hn)]; exact q
 zmN := fun b u xs q => by rw [zbo (zbP q hn)]; exact q
 znd := fun b ps q => ⟨#[], by rw [zbo (zbP q hn), q]; simp⟩
theorem Un.write (mu : Mut (H x)) (he : e = x \/ H e = some (.own x)) (k : ∀ b u, b ≠ e -> h.get? b = some u -> h'.get? b = some u) (heo : ∃ u, h'.get? e = some u) : Un fs ex H (upd H x o) h h' := by
 have hx : ∀ b, H b = none -> b ≠ x := fun b n z => by subst z; rw [n] at mu; exact mu
 have hb : ∀ b, H b = none -> b ≠ e := fun b n z => by
  subst z
  rcases he with r | r
  ·exact hx b n r
  ·rw [n] at r; cases r
 have hm : ∀ b u, H b = some u -> ¬ Mut (some u) -> b ≠ x := fun b u q nm z => by subst z; rw [q] at mu; exact nm mu
 refine ⟨fun b u q n _ _ => k b u (hb b n) q, fun b u q n _ _ => ⟨u.slots, k b u (hb b n) q⟩, fun b u q n _ => by rw [zbo (hx b n)]; exact n, fun b u q _ => ?_,
  fun b xs q => by rw [zbo (hm b _ q fun z => z)]; exact q, fun b u xs q => by rw [zbo (hm b _ q fun z => z)]; exact q, fun b ps q => ⟨#[], by rw [zbo (hm b _ q fun z => z), q]; simp⟩⟩
 by_cases hbe : b = e
 ·subst hbe; exact heo
 ·exact ⟨u, k b u hbe q⟩
end
noncomputable def trk (h : Heap) (H : Hp) : List Addr := (List.range h.objs.size).filter fun a => (H a).isSome
noncomputable def zmL (h : Heap) (H : Hp) : Heap := PySem.W.hideAll h (trk h H)
theorem zls (h : Heap) (H : Hp) : (zmL h H).objs.size = h.objs.size := PySem.W.hideAll_size _ _
theorem zmK {h : Heap} {H : Hp} {b : Addr} {o : Obj} (e : h.get? b = some o) (n : H b = none) : (zmL h H).get? b = some o :=
 PySem.W.hideAll_get _ e fun hm => by
  have q : (H b).isSome = true := (List.mem_filter.mp hm).2
  rw [n] at q; simp at q
theorem zou {h : Heap} {H : Hp} {b : Addr} {o : Obj} (e : (zmL h H).get? b = some o) : h.get? b = some o /\ H b = none := by
 have e' : h.get? b = some o := PySem.W.of_hideAll (trk h H) e
 refine ⟨e', ?_⟩
 cases q : H b with
 | none => rfl
 | some x =>
  have hm : b ∈ trk h H := List.mem_filter.mpr ⟨List.mem_range.mpr (Heap.lt_size e'), by simp [q]⟩
  have z : (zmL h H).get? b = none := PySem.W.hideAll_none (trk h H) hm
  rw [z] at e; cases e
end L2
namespace L2
open PySem PySem.Spec PyProof.Rows
structure Mod (K : PySem.W.Frag) (mg : Str -> Option Value) (base : Heap) : Prop where
 kin : K.In base
 glob : base.Ns mainGlobals mg
 blt : ∃ mb, base.Ns builtinsNs mb /\ ∀ x : Str, x ≠ "__name__" -> mb x = bootBuiltins x
 nolimit : base.NoLimit
structure Cx where
 prog : Program
 w : World
 K : PySem.W.Frag
 mg : Str -> Option Value
 base : Heap
 A : Around
 N : List Str
 s₀ : Shared
 H₀ : Hp
 env : Env
 outer : List Env
 stack : List Env
 ex : List Addr
 fn : Str -> Bool
 calm : Bool
 pn : List (Addr × Obj)
 xe : Value -> Shared -> Prop
noncomputable def frs (l : List Env) : List Addr := l.filterMap (·.frame)
abbrev Cx.fs (X : Cx) : List Addr := frs X.outer
def Vis (sc : Scope) (x : Str) : Prop := sc.names.lookup x = some .local \/ sc.names.lookup x = some .cell \/ sc.names.lookup x = some .free
def Loc (sc : Scope) (x : Str) : Prop := sc.names.lookup x = some .local \/ sc.names.lookup x = some .cell
def Look (env : Env) (h : Heap) (m : Str -> Option Value) (x : Str) (u : Value) : Prop :=
 (env.kindOf x = some .local /\ m x = some u) \/ ((env.kindOf x = some .cell \/ env.kindOf x = some .free) /\ ∃ c, env.cells.lookup x = some c /\ h.IsCell c (some u))
structure Cx.Ok (X : Cx) : Prop where
 mod : Mod X.K X.mg X.base
 kind : X.env.scope.kind = .function
 glob : X.env.globals = mainGlobals
 blt : X.env.builtins = builtinsNs
 above : X.s₀.heap.objs.size <= X.env.locals
 inj : ∀ x y c, X.env.cells.lookup x = some c -> X.env.cells.lookup y = some c -> x = y
 has : ∀ x, (X.env.kindOf x = some .cell \/ X.env.kindOf x = some .free) -> ∃ c, X.env.cells.lookup x = some c
 cab : ∀ x c, X.fn x = true -> X.env.cells.lookup x = some c -> X.s₀.heap.objs.size <= c
 hd : X.calm = true -> X.A.handled = none
 frames : X.A.frames = some X.stack
 stk : X.stack = X.outer \/ (X.stack = X.env :: X.outer /\ X.env.frame = some X.env.locals)
 exf : ∀ b ∈ X.ex, b ≠ X.env.locals /\ ∀ x c, X.env.cells.lookup x = some c -> c ≠ b
 bs : ∀ b o, X.base.get? b = some o -> X.s₀.heap.get? b = some o /\ X.H₀ b = none
 bsz : X.base.objs.size <= X.s₀.heap.objs.size
 zqm : ∀ b o, X.base.get? b = some o -> b ∉ X.ex
 zqF : ∀ b ∈ X.ex, b ∉ X.fs
 zlx : X.s₀.heap.FunFrames X.base X.outer
 frf : ∀ b ∈ X.fs, X.H₀ b = none
structure Inv (X : Cx) (pins : List (Addr × Obj)) (σ : List (Option V)) (H : Hp) (s : Shared) : Prop where
 ok : X.Ok
 os : s.os = X.s₀.os
 bare : AllBare s.gens
 base : Un X.fs X.ex X.H₀ H X.s₀.heap s.heap
 loc : ∃ m, s.heap.Ns X.env.locals m /\ ∀ (i : Nat) (x : Str) (v : V), X.N[i]? = some x -> σ[i]? = some (some v) -> Vis X.env.scope x -> ∃ u, RelV v u /\ Look X.env s.heap m x u
 cell : ∀ x c, X.env.cells.lookup x = some c -> ∃ v, s.heap.IsCell c v
 free : H X.env.locals = none
 zgm : ∀ x c, X.env.cells.lookup x = some c -> H c = none
 pin : ∀ p ∈ X.pn ++ pins, s.heap.get? p.1 = some p.2 /\ H p.1 = none /\ p.1 ≠ X.env.locals /\ p.1 ∉ X.fs /\ ∀ v, p.2.data ≠ .cell v
 hok : HOk X.prog X.w H s.heap
 len : σ.length = X.N.length
section
variable {X : Cx} {pins : List (Addr × Obj)} {σ : List (Option V)} {H H' : Hp} {s : Shared} {h' : Heap}
theorem Cx.Ok.zsB (ok : X.Ok) {b : Addr} {o : Obj} (e : X.base.get? b = some o) : b ∉ X.fs := fun hb => by
 have := (ok.zlx.mem hb).1
 rw [e] at this; cases this
theorem Inv.bs (I : Inv X pins σ H s) : ∀ b o, X.base.get? b = some o -> s.heap.get? b = some o /\ H b = none := fun b o e =>
 ⟨I.base.keep b o (I.ok.bs b o e).1 (I.ok.bs b o e).2 (I.ok.zsB e) (I.ok.zqm b o e), I.base.free b o (I.ok.bs b o e).1 (I.ok.bs b o e).2 (I.ok.zqm b o e)⟩
theorem Inv.bk (I : Inv X pins σ H s) : ∀ b o, X.base.get? b = some o -> s.heap.get? b = some o := fun b o e => (I.bs b o e).1
theorem Inv.mod (I : Inv X pins σ H s) : Mod X.K X.mg X.base := I.ok.mod
theorem Inv.kIn (I : Inv X pins σ H s) : X.K.In s.heap := I.ok.mod.kin.keeps I.bk
theorem Inv.lt (I : Inv X pins σ H s) : X.env.locals < s.heap.objs.size := let ⟨_, hn, _⟩ := I.loc; hn.lt
theorem Inv.sz (I : Inv X pins σ H s) : X.s₀.heap.objs.size <= s.heap.objs.size := Nat.le_trans I.ok.above (Nat.le_of_lt I.lt)
theorem Inv.zr9 (I : Inv X pins σ H s) {a : Addr} (h : s.heap.objs.size <= a) : a ∉ X.fs := fun hb => by
 obtain ⟨_, o, ho, _⟩ := I.ok.zlx.mem hb
 exact absurd (Nat.lt_of_lt_of_le (Heap.lt_size ho) (Nat.le_trans I.sz h)) (Nat.lt_irrefl _)
theorem Inv.cne (I : Inv X pins σ H s) : ∀ x c, X.env.cells.lookup x = some c -> c ≠ X.env.locals := fun x c e z => by
 obtain ⟨v, o, ho, hd⟩ := I.cell x c e
 obtain ⟨m, ⟨o', es, ep, ho', hd', _⟩, _⟩ := I.loc
 rw [z, ho'] at ho; cases ho; rw [hd'] at hd; cases hd
theorem Inv.zlx (I : Inv X pins σ H s) : s.heap.FunFrames X.base X.outer := by
 have all : ∀ (l : List Env), (∀ b ∈ frs l, b ∈ X.fs) -> X.s₀.heap.FunFrames X.base l -> s.heap.FunFrames X.base l := by
  intro l
  induction l with
  | nil => intro _ _; trivial
  | cons env r ih =>
   intro hs hl
   obtain ⟨hk, ⟨L, o, hf, hn, ho, hd⟩, hr⟩ := hl
   have hL : L ∈ X.fs := hs L (by unfold frs; rw [List.filterMap_cons, hf]; exact List.mem_cons_self)
   obtain ⟨sl, e⟩ := I.base.slot L o ho (I.ok.frf L hL) hL fun z => I.ok.zqF L z hL
   exact ⟨hk, ⟨L, _, hf, hn, e, hd⟩, ih (fun b hb => hs b (by unfold frs; rw [List.filterMap_cons, hf]; exact List.mem_cons_of_mem _ hb)) hr⟩
 exact all X.outer (fun _ hb => hb) I.ok.zlx
theorem Inv.stack (I : Inv X pins σ H s) : s.heap.FunFrames X.base X.stack := by
 rcases I.ok.stk with e | ⟨e, hf⟩
 ·rw [e]; exact I.zlx
 ·rw [e]
  obtain ⟨m, hn, _⟩ := I.loc
  refine .cons (by rw [I.ok.kind]; decide) hf hn ?_ I.zlx
  exact Heap.get?_none_of_le (Nat.le_trans I.ok.bsz I.ok.above)
theorem Inv.zky (I : Inv X pins σ H s) : ∀ b ∈ frs X.stack, b ∈ X.env.locals :: X.fs := fun b hb => by
 rcases I.ok.stk with e | ⟨e, hf⟩
 ·rw [e] at hb; exact List.mem_cons_of_mem _ hb
 ·rw [e] at hb
  unfold frs at hb
  rw [List.filterMap_cons, hf] at hb
  exact hb
theorem Inv.zkz (I : Inv X pins σ H s) : ∀ b ∈ frs X.stack, H b = none := fun b hb => by
 rcases List.mem_cons.mp (I.zky b hb) with e | hb
 ·rw [e]; exact I.free
 ·obtain ⟨_, o, ho, _⟩ := I.ok.zlx.mem hb
  exact I.base.free b o ho (I.ok.frf b hb) fun z => I.ok.zqF b z hb
theorem Inv.step {g' : Array GenState} {t' : Nat} {d' : Drawn} {ch : List Addr} (I : Inv X pins σ H s)
  (hch : ∀ b ∈ ch, (b ∈ X.ex \/ X.s₀.heap.objs.size <= b) /\ b ≠ X.env.locals /\ (∀ x c, X.env.cells.lookup x = some c -> c ≠ b) /\ ∀ p ∈ X.pn ++ pins, p.1 ≠ b)
  (keep : ∀ b o, b ≠ X.env.locals -> b ∉ X.fs -> b ∉ ch -> s.heap.get? b = some o -> H b = none -> h'.get? b = some o)
  (slot : ∀ b o, b ≠ X.env.locals -> b ∈ X.fs -> b ∉ ch -> s.heap.get? b = some o -> H b = none -> ∃ sl, h'.get? b = some { o with slots := sl }) (free : ∀ b o, b ∉ ch -> s.heap.get? b = some o -> H b = none -> H' b = none)
  (there : ∀ b o, b ∉ ch -> s.heap.get? b = some o -> ∃ o', h'.get? b = some o')
  (zl2 : ∀ b xs, H b = some (.tup xs) -> H' b = some (.tup xs)) (zmN : ∀ b o u, H b = some (.frz o u) -> H' b = some (.frz o u)) (znd : ∀ b ps, H b = some (.tbl ps) -> ∃ more, H' b = some (.tbl (ps ++ more)))
  (ns : ∀ m, s.heap.Ns X.env.locals m -> h'.Ns X.env.locals m) (hok : HOk X.prog X.w H' h') (hg : AllBare g') :
  Inv X pins σ H' { s with heap := h', gens := g', drawn := d', toks := t' } := by
 have neL : ∀ b o, X.s₀.heap.get? b = some o -> b ≠ X.env.locals := fun b o e => Nat.ne_of_lt (Nat.lt_of_lt_of_le (Heap.lt_size e) I.ok.above)
 have neC : ∀ b o, X.s₀.heap.get? b = some o -> b ∉ X.ex -> b ∉ ch := fun b o e hx hb => by
  rcases (hch b hb).1 with z | z
  ·exact hx z
  ·exact absurd (Nat.lt_of_lt_of_le (Heap.lt_size e) z) (Nat.lt_irrefl _)
 have cellK : ∀ x c, X.env.cells.lookup x = some c -> ∀ v, s.heap.IsCell c v -> h'.IsCell c v := fun x c e v ⟨o, ho, hd⟩ => by
  have nch : c ∉ ch := fun z => (hch c z).2.2.1 x c e rfl
  by_cases hc : c ∈ X.fs
  ·obtain ⟨sl, q⟩ := slot c o (I.cne x c e) hc nch ho (I.zgm x c e)
   exact ⟨_, q, hd⟩
  ·exact ⟨o, keep c o (I.cne x c e) hc nch ho (I.zgm x c e), hd⟩
 refine ⟨I.ok, I.os, hg, ⟨fun b o e n hb hx => ?_, fun b o e n hb hx => ?_, fun b o e n hx => ?_, fun b o e hx => ?_, fun b xs e => zl2 b xs (I.base.zl2 b xs e), fun b o xs e => zmN b o xs (I.base.zmN b o xs e), fun b ps e => ?_⟩, ?_, fun x c e => ?_, ?_, fun x c e => ?_, fun p hp => ?_, hok, I.len⟩
 ·exact keep b o (neL b o e) hb (neC b o e hx) (I.base.keep b o e n hb hx) (I.base.free b o e n hx)
 ·obtain ⟨sl, e1⟩ := I.base.slot b o e n hb hx
  obtain ⟨sl', e2⟩ := slot b _ (neL b o e) hb (neC b o e hx) e1 (I.base.free b o e n hx)
  exact ⟨sl', e2⟩
 ·obtain ⟨o', e1⟩ := I.base.there b o e hx
  exact free b o' (neC b o e hx) e1 (I.base.free b o e n hx)
 ·obtain ⟨o', e1⟩ := I.base.there b o e hx
  exact there b o' (neC b o e hx) e1
 ·obtain ⟨m1, e1⟩ := I.base.znd b ps e
  obtain ⟨m2, e2⟩ := znd b _ e1
  exact ⟨m1 ++ m2, by rw [e2, Array.append_assoc]⟩
 ·obtain ⟨m, hn, hl⟩ := I.loc
  refine ⟨m, ns m hn, fun i x v e1 e2 e3 => ?_⟩
  obtain ⟨u, r, l⟩ := hl i x v e1 e2 e3
  refine ⟨u, r, ?_⟩
  rcases l with l | ⟨k, c, e, z⟩
  ·exact .inl l
  ·exact .inr ⟨k, c, e, cellK x c e _ z⟩
 ·obtain ⟨v, z⟩ := I.cell x c e
  exact ⟨v, cellK x c e v z⟩
 ·obtain ⟨m, ⟨o, _, _, ho, _⟩, _⟩ := I.loc
  exact free _ o (fun z => (hch _ z).2.1 rfl) ho I.free
 ·obtain ⟨v, o, ho, hd⟩ := I.cell x c e
  exact free c o (fun z => (hch c z).2.2.1 x c e rfl) ho (I.zgm x c e)
 ·obtain ⟨e, n, ne, nf, d⟩ := I.pin p hp
  have nch : p.1 ∉ ch := fun z => (hch p.1 z).2.2.2 p hp rfl
  exact ⟨keep p.1 p.2 ne nf nch e n, free p.1 p.2 nch e n, ne, nf, d⟩
theorem Inv.un {t' : Nat} (I : Inv X pins σ H s) (u : Un X.fs [] H H' s.heap h') (hok : HOk X.prog X.w H' h') : Inv X pins σ H' { s with heap := h', toks := t' } := by
 obtain ⟨m, ⟨o, es, ep, ho, r⟩, _⟩ := id I.loc
 obtain ⟨sl, hL⟩ := u.any ho I.free (by simp)
 exact I.step (g' := s.gens) (d' := s.drawn) (ch := []) (fun _ z => nomatch z) (fun b o _ hb _ e n => u.keep b o e n hb (by simp)) (fun b o _ hb _ e n => u.slot b o e n hb (by simp)) (fun b o _ e n => u.free b o e n (by simp)) (fun b o _ e => u.there b o e (by simp)) u.zl2 u.zmN u.znd (fun m' hm => by
  obtain ⟨o', es', ep', ho', r'⟩ := hm
  rw [ho] at ho'; cases ho'
  exact ⟨_, es', ep', hL, r'⟩) hok I.bare
theorem Inv.call {g' : Array GenState} {t' : Nat} {d' : Drawn} {ch : List Addr} (I : Inv X pins σ H s) (u : Un (frs X.stack) ch H H' s.heap h') (hok : HOk X.prog X.w H' h') (hg : AllBare g')
  (hch : ∀ b ∈ ch, (b ∈ X.ex \/ X.s₀.heap.objs.size <= b) /\ b ≠ X.env.locals /\ (∀ x c, X.env.cells.lookup x = some c -> c ≠ b) /\ ∀ p ∈ X.pn ++ pins, p.1 ≠ b) :
  Inv X pins σ H' { s with heap := h', gens := g', drawn := d', toks := t' } := by
 obtain ⟨m, ⟨o, es, ep, ho, r⟩, _⟩ := id I.loc
 obtain ⟨sl, hL⟩ := u.any ho I.free fun z => (hch _ z).2.1 rfl
 exact I.step (ch := ch) hch (fun b o hL hb hc e n => u.keep b o e n (fun z => (List.mem_cons.mp (I.zky b z)).elim hL hb) hc) (fun b o _ _ hc e n => u.any e n hc) (fun b o hc e n => u.free b o e n hc) (fun b o hc e => u.there b o e hc) u.zl2 u.zmN u.znd (fun m' hm => by
  obtain ⟨o', es', ep', ho', r'⟩ := hm
  rw [ho] at ho'; cases ho'
  exact ⟨_, es', ep', hL, r'⟩) hok hg
theorem Inv.turned {t' : Nat} {it : Addr} (I : Inv X pins σ H s) (k : ∀ b o, b ≠ it -> s.heap.get? b = some o -> h'.get? b = some o) (hn : H it = none) (hL : it ≠ X.env.locals)
  (h1 : it ∈ X.ex \/ X.s₀.heap.objs.size <= it) (h2 : ∀ x c, X.env.cells.lookup x = some c -> c ≠ it) (h3 : ∀ p ∈ X.pn ++ pins, p.1 ≠ it) : Inv X pins σ H { s with heap := h', toks := t' } := by
 have nit : ∀ b u, H b = some u -> b ≠ it := fun b u e z => by rw [z, hn] at e; cases e
 refine I.step (g' := s.gens) (d' := s.drawn) (ch := [it]) (fun b hb => ?_) (fun b o _ _ hc e _ => k b o (fun z => hc (by simp [z])) e) (fun b o _ _ hc e _ => ⟨o.slots, k b o (fun z => hc (by simp [z])) e⟩) (fun _ _ _ _ n => n)
  (fun b o hc e => ⟨o, k b o (fun z => hc (by simp [z])) e⟩) (fun _ _ e => e) (fun _ _ _ e => e) (fun b ps e => ⟨#[], by rw [e]; simp⟩) (fun m hm => ?_) (fun b u e => ?_) I.bare
 ·have e : b = it := by simpa using hb
  subst e
  exact ⟨h1, hL, h2, h3⟩
 ·obtain ⟨o, es, ep, ho, r⟩ := hm
  exact ⟨o, es, ep, k _ o (Ne.symm hL) ho, r⟩
 ·refine (I.hok b u e).zmb (fun c v hc q => k c v ?_ q) (fun _ q => q) fun _ _ q => q
  rcases hc with z | z
  ·rw [z]; exact nit b u e
  ·exact nit c _ z
theorem Inv.tok (I : Inv X pins σ H s) (t : Nat) : Inv X pins σ H { s with toks := t } := I.un (h' := s.heap) (t' := t) Un.refl I.hok
theorem Inv.kept {t' : Nat} (I : Inv X pins σ H s) (k : ∀ b u, s.heap.get? b = some u -> h'.get? b = some u) : Inv X pins σ H { s with heap := h', toks := t' } := I.un (Un.kept k) (I.hok.kept k)
theorem Inv.laid {a : Addr} {o : HO} {t' : Nat} (I : Inv X pins σ H s) (k : ∀ b u, s.heap.get? b = some u -> h'.get? b = some u) (hp : s.heap.objs.size <= a) (new : zdk X.prog X.w (upd H a o) h' a o) :
  Inv X pins σ (upd H a o) { s with heap := h', toks := t' } := I.un (Un.laid k hp (I.hok.fresh hp)) (I.hok.laid k hp new)
theorem Inv.write {x e : Addr} {o : HO} {t' : Nat} (I : Inv X pins σ H s) (mu : Mut (H x)) (he : e = x \/ H e = some (.own x)) (k : ∀ b u, b ≠ e -> s.heap.get? b = some u -> h'.get? b = some u) (heo : ∃ u, h'.get? e = some u)
  (new : zdk X.prog X.w (upd H x o) h' x o) : Inv X pins σ (upd H x o) { s with heap := h', toks := t' } := I.un (Un.write mu he k heo) (I.hok.write mu he k heo new)
theorem Inv.ziE {pins' : List (Addr × Obj)} (I : Inv X pins σ H s) (h : ∀ p ∈ pins', s.heap.get? p.1 = some p.2 /\ H p.1 = none /\ p.1 ≠ X.env.locals /\ p.1 ∉ X.fs /\ ∀ v, p.2.data ≠ .cell v) : Inv X pins' σ H s :=
 ⟨I.ok, I.os, I.bare, I.base, I.loc, I.cell, I.free, I.zgm, fun p hp => (List.mem_append.mp hp).elim (fun z => I.pin p (List.mem_append_left _ z)) (h p), I.hok, I.len⟩
theorem zje {N : List Str} (hN : N.Nodup) {i j : Nat} {x : Str} (a : N[i]? = some x) (b : N[j]? = some x) : i = j := by
 obtain ⟨h1, e1⟩ := List.getElem?_eq_some_iff.mp a
 obtain ⟨h2, e2⟩ := List.getElem?_eq_some_iff.mp b
 exact (List.getElem_inj hN).mp (e1.trans e2.symm)
theorem zkx {M : Model} {A : Around} {E : Value -> Shared -> Prop} {i : Nat} {x : Str} {v : V} {u : Value} {Q : Unit -> Shared -> Prop} (I : Inv X pins σ H s) (hN : X.N.Nodup) (hi : X.N[i]? = some x) (hx : Loc X.env.scope x) (r : RelV v u)
  (h : ∀ s', Inv X pins (σ.set i (some v)) H s' -> (∃ a, Heap.SameBut a s.heap s'.heap /\ (a = X.env.locals \/ X.env.cells.lookup x = some a)) -> Q () s') (hf : X.fn x = true \/ X.env.scope.names.lookup x = some .local := by first | exact .inl rfl | exact .inr rfl | assumption) : wpAny M A (storeName X.env x u) Q E s := by
 obtain ⟨m, hn, hl⟩ := id I.loc
 have hcls : (X.env.scope.kind == .class || (X.env.scope.kind == .module && X.env.locals != X.env.globals)) = false := by rw [I.ok.kind]; rfl
 have hiσ : i < σ.length := by rw [I.len]; exact (List.getElem?_eq_some_iff.mp hi).1
 have cne := I.cne
 have tracked : ∀ {a : Addr} {h' : Heap}, (∃ o, s.heap.get? a = some o /\ H a = none) -> Heap.SameBut a s.heap h' -> HOk X.prog X.w H h' := fun {a h'} ha hs b ob e => by
  obtain ⟨_, _, hfree⟩ := ha
  refine (I.hok b ob e).zmb (fun c w' hc q => (hs.2 c ?_).trans q) (fun _ q => q) fun _ _ q => q
  rintro rfl
  rcases hc with rfl | hc
  ·rw [hfree] at e; cases e
  ·rw [hfree] at hc; cases hc
 rcases hx with hk | hk
 ·refine wpAny_storeName_local hk hn (fun h' hn' hs => ?_) hcls
  obtain ⟨oL, _, _, hoL, _⟩ := id hn
  refine h _ ⟨I.ok, I.os, I.bare, ⟨fun b o e n hb hx => ?_, fun b o e n hb hx => ?_, I.base.free, fun b o e hx => ?_, I.base.zl2, I.base.zmN, I.base.znd⟩, ⟨_, hn', fun j y v' e1 e2 e3 => ?_⟩, fun y c e => ?_, I.free, I.zgm, fun p hp => ?_, tracked ⟨oL, hoL, I.free⟩ hs, by simpa using I.len⟩ ⟨_, hs, .inl rfl⟩
  ·exact (hs.2 b (Nat.ne_of_lt (Nat.lt_of_lt_of_le (Heap.lt_size e) I.ok.above))).trans (I.base.keep b o e n hb hx)
  ·obtain ⟨sl, e1⟩ := I.base.slot b o e n hb hx
   exact ⟨sl, (hs.2 b (Nat.ne_of_lt (Nat.lt_of_lt_of_le (Heap.lt_size e) I.ok.above))).trans e1⟩
  ·obtain ⟨o', e1⟩ := I.base.there b o e hx
   exact ⟨o', (hs.2 b (Nat.ne_of_lt (Nat.lt_of_lt_of_le (Heap.lt_size e) I.ok.above))).trans e1⟩
  ·by_cases hj : j = i
   ·subst hj
    rw [hi] at e1; cases e1
    rw [List.getElem?_set_self hiσ] at e2
    cases e2
    exact ⟨u, r, .inl ⟨hk, by simp⟩⟩
   ·rw [List.getElem?_set_ne (Ne.symm hj)] at e2
    obtain ⟨u', r', q⟩ := hl j y v' e1 e2 e3
    refine ⟨u', r', ?_⟩
    rcases q with ⟨k, e⟩ | ⟨k, c, e, z⟩
    ·refine .inl ⟨k, ?_⟩
     have : y ≠ x := fun e => hj (zje hN e1 (e ▸ hi))
     simp [this, e]
    ·exact .inr ⟨k, c, e, z.sameBut hs (cne y c e)⟩
  ·obtain ⟨w', z⟩ := I.cell y c e
   exact ⟨w', z.sameBut hs (cne y c e)⟩
  ·obtain ⟨e, n, ne, nf, d⟩ := I.pin p hp
   exact ⟨(hs.2 p.1 ne).trans e, n, ne, nf, d⟩
 ·have hfn : X.fn x = true := by
   rcases hf with z | z
   ·exact z
   ·rw [z] at hk; cases hk
  obtain ⟨c, hc⟩ := I.ok.has x (.inl hk)
  obtain ⟨w', z⟩ := I.cell x c hc
  refine wpAny_storeName_cell I.ok.kind hk hc z (fun h' hc' hs => ?_)
  obtain ⟨oc, hoc, hocd⟩ := id z
  refine h { s with heap := h' } ⟨I.ok, I.os, I.bare, ⟨fun b o e n hb hx => ?_, fun b o e n hb hx => ?_, I.base.free, fun b o e hx => ?_, I.base.zl2, I.base.zmN, I.base.znd⟩, ⟨m, hn.sameBut hs (Ne.symm (cne x c hc)), fun j y v' e1 e2 e3 => ?_⟩, fun y c' e => ?_, I.free, I.zgm, fun p hp => ?_, tracked ⟨oc, hoc, I.zgm x c hc⟩ hs, by simpa using I.len⟩ ⟨c, hs, .inr hc⟩
  ·exact (hs.2 b (Nat.ne_of_lt (Nat.lt_of_lt_of_le (Heap.lt_size e) (I.ok.cab x c hfn hc)))).trans (I.base.keep b o e n hb hx)
  ·obtain ⟨sl, e1⟩ := I.base.slot b o e n hb hx
   exact ⟨sl, (hs.2 b (Nat.ne_of_lt (Nat.lt_of_lt_of_le (Heap.lt_size e) (I.ok.cab x c hfn hc)))).trans e1⟩
  ·obtain ⟨o', e1⟩ := I.base.there b o e hx
   exact ⟨o', (hs.2 b (Nat.ne_of_lt (Nat.lt_of_lt_of_le (Heap.lt_size e) (I.ok.cab x c hfn hc)))).trans e1⟩
  ·by_cases hj : j = i
   ·subst hj
    rw [hi] at e1; cases e1
    rw [List.getElem?_set_self hiσ] at e2
    cases e2
    exact ⟨u, r, .inr ⟨.inl hk, c, hc, hc'⟩⟩
   ·rw [List.getElem?_set_ne (Ne.symm hj)] at e2
    obtain ⟨u', r', q⟩ := hl j y v' e1 e2 e3
    refine ⟨u', r', ?_⟩
    rcases q with q | ⟨k, c', e, z'⟩
    ·exact .inl q
    ·refine .inr ⟨k, c', e, z'.sameBut hs ?_⟩
     rintro rfl
     exact hj (zje hN e1 (I.ok.inj _ _ _ e hc ▸ hi))
  ·by_cases hcc : c' = c
   ·subst hcc; exact ⟨_, hc'⟩
   ·obtain ⟨w2, z2⟩ := I.cell y c' e
    exact ⟨w2, z2.sameBut hs hcc⟩
  ·obtain ⟨e, n, ne, nf, d⟩ := I.pin p hp
   refine ⟨(hs.2 p.1 ?_).trans e, n, ne, nf, d⟩
   intro q
   rw [q, hoc] at e
   have q' : oc = p.2 := Option.some.inj e
   exact d w' (by rw [<- q']; exact hocd)
theorem zi4 {M : Model} {A : Around} {E : Value -> Shared -> Prop} {i : Nat} {x : Str} {v : V} {u : Value} {Q : Unit -> Shared -> Prop} (I : Inv X pins σ H s) (hN : X.N.Nodup) (hi : X.N[i]? = some x) (hx : Loc X.env.scope x) (r : RelV v u)
  (h : ∀ s', Inv X pins (σ.set i (some v)) H s' -> Q () s') (hf : X.fn x = true \/ X.env.scope.names.lookup x = some .local := by first | exact .inl rfl | exact .inr rfl | assumption) : wpAny M A (storeName X.env x u) Q E s :=
 zkx I hN hi hx r (fun s' I' _ => h s' I') hf
theorem Inv.zrK {s' : Shared} {ch : List Addr} (I : Inv X pins σ H s) (ho : s'.os = s.os) (u : Un (frs X.stack) ch H H' s.heap s'.heap) (hok : HOk X.prog X.w H' s'.heap) (hg : AllBare s'.gens)
  (hch : ∀ b ∈ ch, (b ∈ X.ex \/ X.s₀.heap.objs.size <= b) /\ b ≠ X.env.locals /\ (∀ x c, X.env.cells.lookup x = some c -> c ≠ b) /\ ∀ p ∈ X.pn ++ pins, p.1 ≠ b) : Inv X pins σ H' s' := by
 obtain ⟨h', g', d', t', o'⟩ := s'
 have e : o' = s.os := ho
 subst e
 exact I.call (g' := g') (t' := t') (d' := d') u hok hg hch
end
abbrev XK := Value -> Option Addr -> Hp -> Prop
abbrev St := List (Option V)
abbrev VK := V -> Hp -> Prop
abbrev TE := St -> Hp -> VK -> Prop
abbrev TT := St -> Hp -> (Bool -> Hp -> Prop) -> Prop
abbrev TA := St -> Hp -> (List V -> Hp -> Prop) -> Prop
structure Ends where
 nx : St -> Hp -> Prop
 rt : VK
 bk : St -> Hp -> Prop := fun _ _ => False
 ct : St -> Hp -> Prop := fun _ _ => False
abbrev TS := Ends -> St -> Hp -> Prop
def EP (X : Cx) (pins : List (Addr × Obj)) (σ : St) (Q : VK) (u : Value) (s' : Shared) : Prop := ∃ v H', Inv X pins σ H' s' /\ RelV v u /\ Q v H'
def TP (X : Cx) (pins : List (Addr × Obj)) (σ : St) (Q : Bool -> Hp -> Prop) (b : Bool) (s' : Shared) : Prop := ∃ H', Inv X pins σ H' s' /\ Q b H'
def AP (X : Cx) (pins : List (Addr × Obj)) (σ : St) (Q : List V -> Hp -> Prop) (us : List Value) (s' : Shared) : Prop := ∃ vs H', Inv X pins σ H' s' /\ Vals vs us /\ Q vs H'
def SP (X : Cx) (pins : List (Addr × Obj)) (D : Ends) (f : Flow) (s' : Shared) : Prop :=
 match f with
 | .next => ∃ σ' H', Inv X pins σ' H' s' /\ D.nx σ' H'
 | .brk => ∃ σ' H', Inv X pins σ' H' s' /\ D.bk σ' H'
 | .cont => ∃ σ' H', Inv X pins σ' H' s' /\ D.ct σ' H'
 | .ret u => ∃ v σ' H', Inv X pins σ' H' s' /\ RelV v u /\ D.rt v H'
def PE (X : Cx) (e : Expr) (t : TE) : Prop :=
 ∀ (pins : List (Addr × Obj)) (s : Shared) (σ : St) (H : Hp) (Q : VK), Inv X pins σ H s -> t σ H Q -> wpAny (model X.prog X.w) X.A (eval e X.env) (EP X pins σ Q) X.xe s
def PT (X : Cx) (e : Expr) (t : TT) : Prop :=
 ∀ (pins : List (Addr × Obj)) (s : Shared) (σ : St) (H : Hp) (Q : Bool -> Hp -> Prop), Inv X pins σ H s -> t σ H Q -> wpAny (model X.prog X.w) X.A (isTrue e X.env (eval e X.env)) (TP X pins σ Q) X.xe s
def PW (X : Cx) (e : Expr) (t : TT) : Prop :=
 ∀ (whole : Sem Value) (pins : List (Addr × Obj)) (s : Shared) (σ : St) (H : Hp) (Q : Bool -> Hp -> Prop), Inv X pins σ H s -> t σ H Q -> wpAny (model X.prog X.w) X.A (isTrue e X.env whole) (TP X pins σ Q) X.xe s
theorem PW.pt {X : Cx} {e : Expr} {t : TT} (h : PW X e t) : PT X e t := h _
def PA (X : Cx) (es : List Expr) (t : TA) : Prop :=
 ∀ (pos : Pos) (pins : List (Addr × Obj)) (s : Shared) (σ : St) (H : Hp) (Q : List V -> Hp -> Prop), Inv X pins σ H s -> t σ H Q -> wpAny (model X.prog X.w) X.A (spliced (backTo pos (starEach es X.env))) (AP X pins σ Q) X.xe s
def PS (X : Cx) (st : Stmt) (t : TS) : Prop :=
 ∀ (pins : List (Addr × Obj)) (s : Shared) (σ : St) (H : Hp) (D : Ends), Inv X pins σ H s -> t D σ H -> wpAny (model X.prog X.w) X.A (exec st X.env) (SP X pins D) X.xe s
def PSs (X : Cx) (st : List Stmt) (t : TS) : Prop :=
 ∀ (pins : List (Addr × Obj)) (s : Shared) (σ : St) (H : Hp) (D : Ends), Inv X pins σ H s -> t D σ H -> wpAny (model X.prog X.w) X.A (execs st X.env) (SP X pins D) X.xe s
theorem thn {α : Type} {t : Sem α} {Q Q' : α -> Shared -> Prop} {M : Model} {A : Around} {E : Value -> Shared -> Prop} {s : Shared} (h : wpAny M A t Q E s) (hQ : ∀ a s, Q a s -> Q' a s) : wpAny M A t Q' E s := wpAny_mono h hQ fun _ _ x => x
end L2
namespace L2
open PySem PySem.Spec PyProof.Rows
section
variable {X : Cx}
theorem bin {a b : Expr} {ta tb : TE} (ha : PE X a ta) (hb : PE X b tb) {pins : List (Addr × Obj)} {s : Shared} {σ : St} {H : Hp} {R : V -> V -> Hp -> Prop} (I : Inv X pins σ H s) (h : ta σ H fun x H1 => tb σ H1 fun y H2 => R x y H2)
  {α : Type} {Q : α -> Shared -> Prop} {f : Value -> Value -> Sem α}
  (hf : ∀ v u s2 x y H2, Inv X pins σ H2 s2 -> RelV x v -> RelV y u -> R x y H2 -> wpAny (model X.prog X.w) X.A (f v u) Q X.xe s2) :
  wpAny (model X.prog X.w) X.A (eval a X.env) (fun v s₁ => wpAny (model X.prog X.w) X.A (eval b X.env) (fun u s₂ => wpAny (model X.prog X.w) X.A (f v u) Q X.xe s₂) X.xe s₁) X.xe s := by
 refine thn (ha pins s σ H _ I h) fun v s1 ⟨x, H1, I1, r1, q1⟩ => ?_
 refine thn (hb pins s1 σ H1 _ I1 q1) fun u s2 ⟨y, H2, I2, r2, q2⟩ => ?_
 exact hf v u s2 x y H2 I2 r1 r2 q2
def zq7 (i : Nat) : TE := fun σ H Q => ∃ v, σ[i]? = some (some v) /\ Q v H
def tC (v : V) : TE := fun _ H Q => Q v H
theorem zpK {i : Nat} {x : Str} {pos : Pos} (hN : X.N[i]? = some x) (hv : Vis X.env.scope x) (hd : (x == ("__debug__" : Str)) = false := by decide) (hcd : (x == ("__classdict__" : Str)) = false := by decide) : PE X (.Name x pos) (zq7 i) := by
 intro pins s σ H Q I h
 obtain ⟨v, e, h⟩ := h
 obtain ⟨m, hn, hl⟩ := I.loc
 obtain ⟨u, r, l⟩ := hl i x v hN e hv
 have fin : EP X pins σ Q u s := ⟨v, H, I, r, h⟩
 rcases l with ⟨hk, hm⟩ | ⟨hk, c, hc, hcell⟩
 ·exact wpAny_Name (wpAny_loadName_local I.ok.kind hk hn hm fin) hd
 ·rcases hk with hk | hk
  ·exact wpAny_Name (wpAny_loadName_cell I.ok.kind hk hc hcell fin) hd
  ·exact wpAny_Name (wpAny_loadName_free I.ok.kind hk hc hcell fin hcd) hd
theorem znl {i j pos} : PE X (.Constant (.int i) j pos) (tC (.int i)) := fun _ _ _ H _ I h => wpAny_Constant_int ⟨.int i, H, I.tok _, ⟨_, rfl⟩, h⟩
theorem zrp {b j pos} : PE X (.Constant (.bool b) j pos) (tC (.bl b)) := fun _ _ _ H _ I h => Constant_bool ⟨.bl b, H, I, rfl, h⟩
theorem zpR {j pos} : PE X (.Constant .none j pos) (tC .non) := fun _ _ _ H _ I h => Constant_none ⟨.non, H, I, rfl, h⟩
theorem zpN {x j pos} : PE X (.Constant (.str x) j pos) (tC (.str x)) := fun _ _ _ H _ I h => Calls.Constant_str ⟨.str x, H, I.tok _, ⟨_, rfl⟩, h⟩
def Gl (X : Cx) (x : Str) : Prop := X.env.kindOf x = some .globalImplicit
theorem zld {E : Value -> Shared -> Prop} {pins : List (Addr × Obj)} {s : Shared} {σ : St} {H : Hp} {x : Str} {u : Value} {pos : Pos} {Q : Value -> Shared -> Prop} (I : Inv X pins σ H s) (hg : Gl X x) (hm : X.mg x = some u) (h : Q u s)
  (hd : (x == ("__debug__" : Str)) = false := by decide) : wpAny (model X.prog X.w) X.A (eval (.Name x pos) X.env) Q E s :=
 Calls.Name_function_global I.ok.kind hg (Calls.loadGlobal_global (by rw [I.ok.glob]; exact I.mod.glob.keeps I.bk) hm h) hd
theorem zgz {E : Value -> Shared -> Prop} {pins : List (Addr × Obj)} {s : Shared} {σ : St} {H : Hp} {x : Str} {u : Value} {pos : Pos} {Q : Value -> Shared -> Prop} (I : Inv X pins σ H s) (hg : Gl X x) (hm : X.mg x = none) (hv : bootBuiltins x = some u) (h : Q u s)
  (hn : x ≠ "__name__" := by decide) (hd : (x == ("__debug__" : Str)) = false := by decide) : wpAny (model X.prog X.w) X.A (eval (.Name x pos) X.env) Q E s := by
 obtain ⟨mb, h1, h2⟩ := I.mod.blt
 exact Calls.Name_function_global I.ok.kind hg (Calls.loadGlobal_builtin (by rw [I.ok.glob]; exact I.mod.glob.keeps I.bk) hm (by rw [I.ok.blt]; exact h1.keeps I.bk) ((h2 x hn).trans hv) h) hd
theorem zkU {x : Str} {v : V} {u : Value} {pos : Pos} (hg : Gl X x) (hm : X.mg x = some u) (r : RelV v u) (hd : (x == ("__debug__" : Str)) = false := by decide) : PE X (.Name x pos) (tC v) :=
 fun _ _ _ H _ I h => zld I hg hm ⟨v, H, I, r, h⟩ hd
theorem zn9 {x : Str} {v : V} {u : Value} {pos : Pos} (hg : Gl X x) (hm : X.mg x = none) (hv : bootBuiltins x = some u) (r : RelV v u) (hn : x ≠ "__name__" := by decide) (hd : (x == ("__debug__" : Str)) = false := by decide) : PE X (.Name x pos) (tC v) :=
 fun _ _ _ H _ I h => zgz I hg hm hv ⟨v, H, I, r, h⟩ hn hd
variable {a b : Expr} {ta tb : TE} {pos : Pos}
variable {tA tB' : TT} {rest : List Expr}
def zsz (t u : TT) : TT := fun σ H Q => t σ H fun c H1 => if c = true then u σ H1 Q else Q false H1
def tOr (t u : TT) : TT := fun σ H Q => t σ H fun c H1 => if c = true then Q true H1 else u σ H1 Q
def zsv (t : TT) : TT := fun σ H Q => t σ H fun c H1 => Q (!c) H1
theorem znY (ha : PT X a tA) : PW X (.BoolOp .And [a] pos) tA := by
 intro wh pins s σ H Q I h
 refine isTrue_and (thn (ha pins s σ H Q I h) fun c s1 e => ?_)
 cases c with
 | true => exact isTrue_and_nil e
 | false => exact e
theorem zpy (ha : PT X a tA) : PW X (.BoolOp .Or [a] pos) tA := by
 intro wh pins s σ H Q I h
 refine isTrue_or (thn (ha pins s σ H Q I h) fun c s1 e => ?_)
 cases c with
 | false => exact isTrue_or_nil e
 | true => exact e
theorem zpz (ha : PT X a tA) (hb : PW X (.BoolOp .And (b :: rest) pos) tB') : PW X (.BoolOp .And (a :: b :: rest) pos) (zsz tA tB') := by
 intro wh pins s σ H Q I h
 refine isTrue_and (thn (ha pins s σ H _ I h) fun c s1 ⟨H1, I1, q1⟩ => ?_)
 cases c with
 | true => exact hb wh pins s1 σ H1 Q I1 q1
 | false => exact ⟨H1, I1, q1⟩
theorem zrh (ha : PT X a tA) (hb : PW X (.BoolOp .Or (b :: rest) pos) tB') : PW X (.BoolOp .Or (a :: b :: rest) pos) (tOr tA tB') := by
 intro wh pins s σ H Q I h
 refine isTrue_or (thn (ha pins s σ H _ I h) fun c s1 ⟨H1, I1, q1⟩ => ?_)
 cases c with
 | true => exact ⟨H1, I1, q1⟩
 | false => exact hb wh pins s1 σ H1 Q I1 q1
theorem zpA (ha : PT X a tA) : PT X (.UnaryOp .Not a pos) (zsv tA) := by
 intro pins s σ H Q I h
 exact isTrue_not (ha pins s σ H (fun c H1 => Q (!c) H1) I h)
def zrc (ta tb : TE) : TE := fun σ H Q => ta σ H fun x H1 => ∃ c, x = .bl c /\ if c = true then tb σ H1 Q else Q (.bl false) H1
def zq9 (ta : TE) : TE := fun σ H Q => ta σ H fun x H1 => ∃ c, x = .bl c /\ Q (.bl (!c)) H1
theorem zpP {op} {t : TE} (h : PE X a t) : PE X (.BoolOp op [a] pos) t := fun pins s σ H Q I hw => BoolOp_one (h pins s σ H Q I hw)
theorem zpT (ha : PE X a ta) (hb : PE X (.BoolOp .And (b :: rest) pos) tb) : PE X (.BoolOp .And (a :: b :: rest) pos) (zrc ta tb) := by
 intro pins s σ H Q I h
 refine BoolOp_and (thn (ha pins s σ H _ I h) fun v s1 ⟨x, H1, I1, r1, q1⟩ => ?_)
 obtain ⟨c, rfl, q1⟩ := q1
 cases r1
 refine wpAny_truthy_bool ?_
 cases c with
 | true => exact hb pins s1 σ H1 Q I1 q1
 | false => exact ⟨.bl false, H1, I1, rfl, q1⟩
theorem zpQ (ha : PE X a ta) : PE X (.UnaryOp .Not a pos) (zq9 ta) := by
 intro pins s σ H Q I h
 refine UnaryOp_ (thn (ha pins s σ H _ I h) fun v s1 ⟨x, H1, I1, r1, q1⟩ => ?_)
 obtain ⟨c, rfl, q1⟩ := q1
 cases r1
 exact not_of (wpAny_truthy_bool ⟨.bl (!c), H1, I1, rfl, q1⟩)
end
end L2
namespace L2
open PySem PySem.Spec PyProof.Rows
def SqL (K : PySem.W.Frag) (H : Hp) (a : Addr) (xs : List V) : Prop :=
 Rd H a (.lst xs) \/
  ∃ (o : Obj) (its : Array Value) (n : Nat), K.lookup a = some o /\ o.cls = .type "list" /\ o.dict = none /\ o.data = .seq its n /\ its.size <= sizeLine /\ Vals xs its.toList
def SqT (K : PySem.W.Frag) (H : Hp) (a : Addr) (xs : List V) : Prop :=
 Rd H a (.tup xs) \/
  ∃ (o : Obj) (its : Array Value) (n : Nat), K.lookup a = some o /\ o.cls = .type "tuple" /\ o.data = .seq its n /\ its.size <= sizeLine /\ Vals xs its.toList
noncomputable def zsU : Value -> Option V
 | .none => some .non
 | .bool b => some (.bl b)
 | .int i _ => some (.int i)
 | .str x _ => some (.str x)
 | .bytes b _ => some (.byt b)
 | .float b _ => some (.flt b)
 | .ref a => some (.ref a)
 | .type n => some (.ty n)
 | _ => none
theorem RelV.abs {x : V} {u : Value} (r : RelV x u) : zsU u = some x := by
 cases x with
 | non => cases r; rfl
 | bl _ => cases r; rfl
 | int _ => obtain ⟨t, rfl⟩ := r; rfl
 | str _ => obtain ⟨t, rfl⟩ := r; rfl
 | byt _ => obtain ⟨t, rfl⟩ := r; rfl
 | flt _ => obtain ⟨t, rfl⟩ := r; rfl
 | ref _ => cases r; rfl
 | ty _ => cases r; rfl
theorem RelV.inj {x y : V} {u : Value} (r : RelV x u) (q : RelV y u) : x = y := Option.some.inj (r.abs.symm.trans q.abs)
theorem Vals.inj : ∀ {xs ys : List V} {us : List Value}, Vals xs us -> Vals ys us -> xs = ys
 | _, _, _, .nil, .nil => rfl
 | _, _, _, .cons r t, .cons r' t' => by rw [r.inj r', Vals.inj t t']
section
variable {X : Cx} {pins : List (Addr × Obj)} {σ : St} {H : Hp} {s : Shared} {a : Addr} {xs ys : List V}
theorem SqL.of {K : PySem.W.Frag} (h : H a = some (.lst xs)) : SqL K H a xs := .inl (.inl h)
theorem SqT.of {K : PySem.W.Frag} (h : H a = some (.tup xs)) : SqT K H a xs := .inl (.inl h)
theorem Inv.list (I : Inv X pins σ H s) (h : SqL X.K H a xs) : ∃ its : List Value, Vals xs its /\ PlainL s.heap a its.toArray /\ xs.length <= sizeLine := by
 rcases h with h | ⟨o, its, n, hk, hc, hd, hs, hz, r⟩
 ·obtain ⟨z, its, n, r, e⟩ := h.ok I.hok
  exact ⟨its, r, ⟨_, n, e, rfl, rfl, rfl⟩, z⟩
 ·refine ⟨its.toList, r, ⟨o, n, I.kIn a o hk, hc, hd, by simpa using hs⟩, ?_⟩
  have e := r.length
  simp only [Array.length_toList] at e
  omega
theorem Inv.tuple (I : Inv X pins σ H s) (h : SqT X.K H a xs) : ∃ its : List Value, Vals xs its /\ IsTup s.heap a its.toArray /\ xs.length <= sizeLine := by
 rcases h with h | ⟨o, its, n, hk, hc, hs, hz, r⟩
 ·obtain ⟨z, its, r, p⟩ := h.ok I.hok
  exact ⟨its, r, p, z⟩
 ·refine ⟨its.toList, r, ⟨o, I.kIn a o hk, hc, n, by simpa using hs⟩, ?_⟩
  have e := r.length
  simp only [Array.length_toList] at e
  omega
theorem Inv.zg9 (I : Inv X pins σ H s) (h : SqL X.K H a xs) (h' : SqL X.K H a ys) : xs = ys := by
 obtain ⟨its, r, ⟨o, n, e, _, _, d⟩, _⟩ := I.list h
 obtain ⟨its', r', ⟨o', n', e', _, _, d'⟩, _⟩ := I.list h'
 rw [e] at e'; cases e'
 rw [d] at d'
 injection d' with d1 _
 have : its = its' := by simpa using congrArg Array.toList d1
 subst this
 exact r.inj r'
theorem Inv.zfL (I : Inv X pins σ H s) (h : SqT X.K H a xs) (h' : SqT X.K H a ys) : xs = ys := by
 obtain ⟨its, r, ⟨o, e, _, n, d⟩, _⟩ := I.tuple h
 obtain ⟨its', r', ⟨o', e', _, n', d'⟩, _⟩ := I.tuple h'
 rw [e] at e'; cases e'
 rw [d] at d'
 injection d' with d1 _
 have : its = its' := by simpa using congrArg Array.toList d1
 subst this
 exact r.inj r'
end
abbrev Cx.zl0 (X : Cx) (E : Value -> Shared -> Prop) : Cx := { X with xe := E }
abbrev Cx.nox (X : Cx) : Cx := X.zl0 fun _ _ => False
theorem Cx.Ok.zl0 {X : Cx} (ok : X.Ok) (E : Value -> Shared -> Prop) : (X.zl0 E).Ok :=
 ⟨ok.mod, ok.kind, ok.glob, ok.blt, ok.above, ok.inj, ok.has, ok.cab, ok.hd, ok.frames, ok.stk, ok.exf, ok.bs, ok.bsz, ok.zqm, ok.zqF, ok.zlx, ok.frf⟩
theorem Cx.Ok.zfm {X : Cx} {E : Value -> Shared -> Prop} (ok : (X.zl0 E).Ok) : X.Ok :=
 ⟨ok.mod, ok.kind, ok.glob, ok.blt, ok.above, ok.inj, ok.has, ok.cab, ok.hd, ok.frames, ok.stk, ok.exf, ok.bs, ok.bsz, ok.zqm, ok.zqF, ok.zlx, ok.frf⟩
section
variable {X : Cx} {pins : List (Addr × Obj)} {σ : St} {H : Hp} {s : Shared} {E : Value -> Shared -> Prop}
theorem Inv.zl0 (I : Inv X pins σ H s) (E : Value -> Shared -> Prop) : Inv (X.zl0 E) pins σ H s := ⟨I.ok.zl0 E, I.os, I.bare, I.base, I.loc, I.cell, I.free, I.zgm, I.pin, I.hok, I.len⟩
theorem Inv.zfm (I : Inv (X.zl0 E) pins σ H s) : Inv X pins σ H s := ⟨I.ok.zfm, I.os, I.bare, I.base, I.loc, I.cell, I.free, I.zgm, I.pin, I.hok, I.len⟩
theorem SP.zfm {D : Ends} {f : Flow} {s' : Shared} (h : SP (X.zl0 E) pins D f s') : SP X pins D f s' := by
 cases f with
 | next => obtain ⟨σ', H', I, q⟩ := h; exact ⟨σ', H', I.zfm, q⟩
 | brk => obtain ⟨σ', H', I, q⟩ := h; exact ⟨σ', H', I.zfm, q⟩
 | cont => obtain ⟨σ', H', I, q⟩ := h; exact ⟨σ', H', I.zfm, q⟩
 | ret u => obtain ⟨v, σ', H', I, r, q⟩ := h; exact ⟨v, σ', H', I.zfm, r, q⟩
theorem PSs.nox {st : List Stmt} {t : TS} (h : PSs X.nox st t) : PSs X st t := fun pins s σ H D I hw =>
 wpAny_mono (h pins s σ H D (I.zl0 _) hw) (fun _ _ q => q.zfm) fun _ _ z => False.elim z
end
section
variable {X : Cx} {st : Stmt} {rest : List Stmt} {t u : TS} {e : Expr} {te : TE} {pos : Pos}
def zra : TS := fun D σ H => D.nx σ H
def zss (t u : TS) : TS := fun D σ H => t { D with nx := u D } σ H
theorem zn1 : PSs X [] zra := fun _ _ σ H _ I h => wpAny_execs_nil ⟨σ, H, I, h⟩
theorem zmm (h1 : PS X st t) (h2 : PSs X rest u) : PSs X (st :: rest) (zss t u) := by
 intro pins s σ H D I h
 refine wpAny_execs_cons (thn (h1 pins s σ H { D with nx := u D } I h) fun f s1 q => ?_)
 cases f with
 | next =>
  obtain ⟨σ', H', I', q⟩ := q
  exact h2 pins s1 σ' H' D I' q
 | ret v => exact q
 | brk => exact q
 | cont => exact q
theorem zn0 (h1 : PS X st t) : PSs X [st] t := by
 intro pins s σ H D I h
 refine wpAny_execs_cons (thn (h1 pins s σ H D I h) fun f s1 q => ?_)
 cases f with
 | next => exact wpAny_execs_nil q
 | ret v => exact q
 | brk => exact q
 | cont => exact q
theorem Inv.quiet {pins : List (Addr × Obj)} {σ : St} {H : Hp} {s : Shared} (I : Inv X pins σ H s) : interactive X.env = false := by simp [interactive, I.ok.kind]
def zrb (te : TE) : TS := fun D σ H => te σ H fun _ H1 => D.nx σ H1
theorem zn2 (he : PE X e te) (hs : swapsWith e none pos.line X.env = pure false := by rfl) : PS X (.Expr e pos) (zrb te) := by
 intro pins s σ H D I h
 exact wpAny_Expr_any (thn (he pins s σ H _ I h) fun v s1 ⟨x, H1, I1, r1, q1⟩ => ⟨σ, H1, I1, q1⟩) I.quiet hs
def zsu (te : TE) : TS := fun D σ H => te σ H D.rt
theorem zpC (he : PE X e te) : PS X (.Return (some e) pos) (zsu te) := by
 intro pins s σ H D I h
 exact wpAny_Return_some (thn (he pins s σ H _ I h) fun v s1 ⟨x, H1, I1, r1, q1⟩ => ⟨x, σ, H1, I1, r1, q1⟩)
def zsx (c : TT) (t u : TS) : TS := fun D σ H => c σ H fun b H1 => if b = true then t D σ H1 else u D σ H1
theorem zri {c : Expr} {a b : List Stmt} {tc : TT} (hc : PT X c tc) (ha : PSs X a t) (hb : PSs X b u) : PS X (.If c a b pos) (zsx tc t u) := by
 intro pins s σ H D I h
 refine wpAny_If (thn (hc pins s σ H _ I h) fun d s1 ⟨H1, I1, q1⟩ => ?_)
 cases d with
 | true => exact ha pins s1 σ H1 D I1 q1
 | false => exact hb pins s1 σ H1 D I1 q1
end
abbrev TG := V -> St -> Hp -> (St -> Hp -> Prop) -> Prop
abbrev TGs := List V -> St -> Hp -> (St -> Hp -> Prop) -> Prop
def PG (X : Cx) (target : Expr) (t : TG) : Prop :=
 ∀ (pins : List (Addr × Obj)) (s : Shared) (σ : St) (H : Hp) (v : V) (u : Value) (Q : St -> Hp -> Prop), Inv X pins σ H s -> RelV v u -> t v σ H Q ->
  wpAny (model X.prog X.w) X.A (assign target X.env u) (fun _ s' => ∃ σ' H', Inv X pins σ' H' s' /\ Q σ' H') X.xe s
def PGs (X : Cx) (ts : List Expr) (t : TGs) : Prop :=
 ∀ (pins : List (Addr × Obj)) (s : Shared) (σ : St) (H : Hp) (vs : List V) (us : List Value) (Q : St -> Hp -> Prop), Inv X pins σ H s -> Vals vs us -> t vs σ H Q ->
  wpAny (model X.prog X.w) X.A (assignInOrder ((assignEach ts X.env).map (·.2)) us) (fun _ s' => ∃ σ' H', Inv X pins σ' H' s' /\ Q σ' H') X.xe s
abbrev zrQ := V -> V -> V -> Hp -> (Hp -> Prop) -> Prop
def zsn (X : Cx) (t : zrQ) : Prop :=
 ∀ (pins : List (Addr × Obj)) (s : Shared) (σ : St) (H : Hp) (o i v : V) (ov iv u : Value) (Q : Hp -> Prop), Inv X pins σ H s -> RelV o ov -> RelV i iv -> RelV v u -> t o i v H Q ->
  wpAny (model X.prog X.w) X.A (setItem ov iv u) (fun _ s' => ∃ H', Inv X pins σ H' s' /\ Q H') X.xe s
section
variable {X : Cx} {pos : Pos}
noncomputable def zmM (i : Nat) : TG := fun v σ H Q => Q (σ.set i (some v)) H
theorem zn6 {i : Nat} {x : Str} (hN : X.N.Nodup) (hi : X.N[i]? = some x) (hx : Loc X.env.scope x) (hf : X.fn x = true \/ X.env.scope.names.lookup x = some .local := by first | exact .inl rfl | exact .inr rfl | assumption) : PG X (.Name x pos) (zmM i) := by
 intro pins s σ H v u Q I r h
 exact wpAny_assign_Name (zi4 I hN hi hx r (fun s' I' => ⟨_, H, I', h⟩) hf)
noncomputable def zsM : TGs := fun vs σ H Q => vs = [] /\ Q σ H
noncomputable def zrD (t : TG) (u : TGs) : TGs := fun vs σ H Q => ∃ v r, vs = v :: r /\ t v σ H fun σ' H' => u r σ' H' Q
theorem zn5 : PGs X [] zsM := by
 intro pins s σ H vs us Q I r h
 obtain ⟨e, h⟩ := h
 subst e
 cases r
 exact assignInOrder_nil ⟨σ, H, I, h⟩
theorem zmp {e : Expr} {es : List Expr} {t : TG} {u : TGs} (h1 : PG X e t) (h2 : PGs X es u)
  (hs : (assignEach (e :: es) X.env).map (·.2) = assign e X.env :: (assignEach es X.env).map (·.2) := by rfl) : PGs X (e :: es) (zrD t u) := by
 intro pins s σ H vs us Q I r h
 obtain ⟨v, vr, e1, h⟩ := h
 subst e1
 cases r with
 | cons r rr =>
  rw [hs]
  refine assignInOrder_cons (thn (h1 pins s σ H _ _ _ I r h) fun _ s1 ⟨σ1, H1, I1, q1⟩ => ?_)
  exact h2 pins s1 σ1 H1 _ _ Q I1 rr q1
noncomputable def zsc (K : PySem.W.Frag) (n : Nat) (t : TGs) : TG := fun v σ H Q => ∃ a xs, v = .ref a /\ SqT K H a xs /\ xs.length = n /\ t xs σ H Q
theorem zpH {es : List Expr} {k : Nat} {t : TGs} {n : Nat} (hc : X.calm = true) (h : PGs X es t)
  (hn : (assignEach es X.env).length = n := by rfl) (hst : (assignEach es X.env).findIdx? (·.1) = none := by rfl) : PG X (.Tuple es k pos) (zsc X.K n t) := by
 intro pins s σ H v u Q I r hw
 obtain ⟨a, xs, e1, hq, hl, hw⟩ := hw
 subst e1
 cases r
 obtain ⟨its, rv, ht, hz⟩ := I.tuple hq
 refine assign_Tuple_tuple (I.ok.hd hc) ht (by simp [hn, <- hl, rv.length]) hst fun h' hx => ?_
 have I1 : Inv X pins σ H { s with heap := h' } := I.kept (t' := s.toks) fun b o e => hx b o (Nat.ne_of_lt (Heap.lt_size e)) e
 exact h pins _ σ H xs _ Q I1 (by simpa using rv) hw
noncomputable def zsL (to ti : TE) (t : zrQ) : TG := fun v σ H Q => to σ H fun o H1 => ti σ H1 fun i H2 => t o i v H2 fun H3 => Q σ H3
theorem zpI {o i : Expr} {to ti : TE} {t : zrQ} (ho : PE X o to) (hi : PE X i ti) (hs : zsn X t)
  (ha : ∀ v, assign (.Subscript o i pos) X.env v = (do
   let ov <- holding [v] (eval o X.env)
   let iv <- holding [v, ov] (eval i X.env)
   standAt pos
   holding [v, ov, iv] (setItem ov iv v)
   release [v, ov, iv] []) := by intro _; rfl) : PG X (.Subscript o i pos) (zsL to ti t) := by
 intro pins s σ H v u Q I r h
 rw [ha]
 refine wpAny_bind (wpAny_holding (thn (ho pins s σ H _ I h) fun ov s1 ⟨x, H1, I1, r1, q1⟩ => ?_))
 refine wpAny_bind (wpAny_holding (thn (hi pins s1 σ H1 _ I1 q1) fun iv s2 ⟨y, H2, I2, r2, q2⟩ => ?_))
 refine wpAny_bind (wpAny_standAt (wpAny_bind (wpAny_holding (thn (hs pins s2 σ H2 x y v ov iv u _ I2 r1 r2 r q2) fun _ s3 ⟨H3, I3, q3⟩ => ?_))))
 exact wpAny_release ⟨σ, H3, I3, q3⟩
def zqY (te : TE) (g : TG) : TS := fun D σ H => te σ H fun x H1 => g x σ H1 D.nx
theorem znk {tg e : Expr} {te : TE} {g : TG} (he : PE X e te) (hg : PG X tg g) (hs : swapsWithSole [tg] e pos.line X.env = pure false := by rfl) (hw : swappedStores [tg] e X.env = pure none := by rfl)
  (h1 : (assignEach [tg] X.env).map (·.2) = [assign tg X.env] := by rfl) : PS X (.Assign [tg] e pos) (zqY te g) := by
 intro pins s σ H D I h
 refine wpAny_Assign_stores (thn (he pins s σ H _ I h) fun v s1 ⟨x, H1, I1, r1, q1⟩ => ?_) hs hw
 rw [h1]
 exact thn (hg pins s1 σ H1 x v _ I1 r1 q1) fun _ s2 q => q
theorem zpB {i : Nat} {x : Str} {e : Expr} {te : TE} {pos' : Pos} (hN : X.N.Nodup) (hi : X.N[i]? = some x) (hx : Loc X.env.scope x) (he : PE X e te) (hs : swapsWith e (some (.Name x pos')) pos.line X.env = pure false := by rfl) (hf : X.fn x = true \/ X.env.scope.names.lookup x = some .local := by first | exact .inl rfl | exact .inr rfl | assumption) :
  PS X (.Assign [.Name x pos'] e pos) (zqY te (zmM i)) := by
 intro pins s σ H D I h
 refine wpAny_Assign_Name (thn (he pins s σ H _ I h) fun v s1 ⟨y, H1, I1, r1, q1⟩ => ?_) hs
 exact zi4 I1 hN hi hx r1 (fun s2 I2 => ⟨_, H1, I2, q1⟩) hf
end
section
variable {X : Cx} {pos : Pos}
end
structure It where
 go : Nat -> Hp -> Prop
 yld : Nat -> Hp -> V -> Hp -> Prop
 stop : Nat -> Hp -> Prop
def zkg (X : Cx) (pins : List (Addr × Obj)) (H : Hp) (b : Addr) : Prop :=
 H b = none /\ b ≠ X.env.locals /\ b ∉ X.fs /\ (b ∈ X.ex \/ X.s₀.heap.objs.size <= b) /\ (∀ x c, X.env.cells.lookup x = some c -> c ≠ b) /\ ∀ p ∈ X.pn ++ pins, p.1 ≠ b
theorem Inv.zrE {X : Cx} {pins : List (Addr × Obj)} {σ : St} {H H' : Hp} {s : Shared} {b : Addr} (I : Inv X pins σ H s) (hb : s.heap.objs.size <= b) (hn : H' b = none) : zkg X pins H' b := by
 refine ⟨hn, Nat.ne_of_gt (Nat.lt_of_lt_of_le I.lt hb), I.zr9 hb, .inr (Nat.le_trans I.sz hb), fun x c e z => ?_, fun p hp z => ?_⟩
 ·obtain ⟨v, q⟩ := I.cell x c e
  exact absurd (Nat.lt_of_lt_of_le q.lt (by rw [z]; exact hb)) (Nat.lt_irrefl _)
 ·exact absurd (Nat.lt_of_lt_of_le (Heap.lt_size (I.pin p hp).1) (by rw [z]; exact hb)) (Nat.lt_irrefl _)
structure Turn (P : Program) (w : World) (K : PySem.W.Frag) (tg : Expr) (J : It) (fp : List Addr) (it : Addr) (tn : Nat -> Heap -> Prop) : Prop where
 mem : it ∈ fp
 obj : ∀ i h, tn i h -> ∀ b ∈ fp, ∃ o, h.get? b = some o /\ ∀ v, o.data ≠ .cell v
 keep : ∀ i h h', tn i h -> (∀ b ∈ fp, ∀ o, h.get? b = some o -> h'.get? b = some o) -> tn i h'
 item : ∀ (X : Cx), X.prog = P -> X.w = w -> X.K = K -> X.calm = true -> ∀ (i : Nat) (pins : List (Addr × Obj)) (s : Shared) (σ : St) (H : Hp) (E : Value -> Shared -> Prop), Inv X pins σ H s -> (∀ b ∈ fp, zkg X pins H b) -> tn i s.heap -> J.go i H ->
  wpAny (model P w) X.A (pyNext (.ref it)) (fun r s1 => ∃ u, r = some u /\
   wpAny (model P w) X.A (letOwnedTupleGo tg (.ref it) u) (fun _ s2 => ∃ x H', Inv X pins σ H' s2 /\ RelV x u /\ J.yld i H x H' /\ tn (i + 1) s2.heap /\ ∀ b ∈ fp, H' b = none) E s1) E s
 done : ∀ (X : Cx), X.prog = P -> X.w = w -> X.K = K -> X.calm = true -> ∀ (i : Nat) (pins : List (Addr × Obj)) (s : Shared) (σ : St) (H : Hp) (E : Value -> Shared -> Prop), Inv X pins σ H s -> (∀ b ∈ fp, zkg X pins H b) -> tn i s.heap -> J.stop i H ->
  wpAny (model P w) X.A (pyNext (.ref it)) (fun r s1 => r = none /\ Inv X pins σ H s1) E s
 self : ∀ (A : Around) (i : Nat) (s : Shared) (Q : Value -> Shared -> Prop) (E : Value -> Shared -> Prop), tn i s.heap -> Q (.ref it) s -> wpAny (model P w) A (pyIter (.ref it)) Q E s
abbrev TI := St -> Hp -> (It -> Hp -> Prop) -> Prop
def PIE (X : Cx) (pins : List (Addr × Obj)) (σ : St) (tg : Expr) (R : It -> Hp -> Prop) (itv : Value) (s2 : Shared) : Prop :=
 ∃ (it : Addr) (fp : List Addr) (tn : Nat -> Heap -> Prop) (J : It) (H' : Hp), itv = .ref it /\ Inv X pins σ H' s2 /\ Turn X.prog X.w X.K tg J fp it tn /\ tn 0 s2.heap /\ (∀ b ∈ fp, zkg X pins H' b) /\ R J H'
def PI (X : Cx) (tg iter : Expr) (wi : TI) : Prop :=
 ∀ (pins : List (Addr × Obj)) (s : Shared) (σ : St) (H : Hp) (R : It -> Hp -> Prop), Inv X pins σ H s -> wi σ H R ->
  wpAny (model X.prog X.w) X.A (eval iter X.env) (fun v s1 => wpAny (model X.prog X.w) X.A (pyIter v) (PIE X pins σ tg R) X.xe s1) X.xe s
theorem zoF {M : Model} {A : Around} {E : Value -> Shared -> Prop} {s : Shared} {tg : Expr} {it : Addr} {u : Value} {o : Obj} {n : String} {vs : Array Value} {Q : Unit -> Shared -> Prop} (ho : s.heap.get? it = some o) (hc : o.cls = .type n) (hd : o.data = .fields vs)
  (hn : ["enumerate", "zip", "dict_itemiterator", "dict_reverseitemiterator", "odict_iterator", "itertools.zip_longest", "itertools.pairwise"].contains n = false) (hQ : Q () s) : wpAny M A (letOwnedTupleGo tg (.ref it) u) Q E s := by
 unfold letOwnedTupleGo
 cases tg <;> first
  | exact wpAny_pure hQ
  | (cases u <;> first
    | exact wpAny_pure hQ
    | (refine wpAny_bind (wpAny_load ho ?_)
       rw [hc, hd]
       show wpAny M A (if (["enumerate", "zip", "dict_itemiterator", "dict_reverseitemiterator", "odict_iterator", "itertools.zip_longest", "itertools.pairwise"].contains n && vs[0]? == some (rawInt _)) = true then _ else _) Q E s
       rw [if_neg (by intro h; rw [hn, Bool.false_and] at h; cases h)]
       exact wpAny_pure hQ))
def Itl (K : PySem.W.Frag) (a : Addr) : It :=
 ⟨fun i H => ∃ xs x, SqL K H a xs /\ xs[i]? = some x, fun i H x H' => H' = H /\ ∀ xs, SqL K H a xs -> xs[i]? = some x, fun i H => ∃ xs, SqL K H a xs /\ xs.length <= i⟩
def Itt (K : PySem.W.Frag) (a : Addr) : It :=
 ⟨fun i H => ∃ xs x, SqT K H a xs /\ xs[i]? = some x, fun i H x H' => H' = H /\ ∀ xs, SqT K H a xs -> xs[i]? = some x, fun i H => ∃ xs, SqT K H a xs /\ xs.length <= i⟩
def Itr (lo : Int) (n : Nat) : It := ⟨fun i _ => i < n, fun i H x H' => H' = H /\ x = .int (lo + i), fun i _ => n <= i⟩
theorem zku {P : Program} {w : World} {K : PySem.W.Frag} {tg : Expr} (a it : Addr) : Turn P w K tg (Itl K a) [it] it (fun i h => h.IsListIter it a i) where
 mem := by simp
 obj := fun i h st b hb => by
  have e : b = it := by simpa using hb
  subst e
  obtain ⟨o, e, c, d⟩ := st
  exact ⟨o, e, fun v z => by rw [d] at z; cases z⟩
 keep := fun i h h' st k => st.at fun o e => k it (by simp) o e
 item := by
  intro X hP hw hK hc i pins s σ H E I hf st hg
  subst hP hw hK
  obtain ⟨xs, x, hq, hx⟩ := hg
  obtain ⟨its, rv, p, hz⟩ := I.list hq
  obtain ⟨u, hu, ru⟩ := rv.get hx
  obtain ⟨f0, f1, f2, f3, f4, f5⟩ := hf it (by simp)
  refine wpAny_pyNext_list_item st p.isList (x := u) (by simpa using hu) fun h' st' sb => ?_
  have I1 : Inv X pins σ H { s with heap := h' } := I.turned (t' := s.toks) (fun b o hb e => (sb.2 b hb).trans e) f0 f1 f3 f4 f5
  obtain ⟨o, e, c, d⟩ := id st'
  exact ⟨u, rfl, zoF (s := { s with heap := h' }) e c d (by decide) ⟨x, H, I1, ru, ⟨rfl, fun ys hy => by rw [I.zg9 hy hq]; exact hx⟩, st', fun b hb => (hf b hb).1⟩⟩
 done := by
  intro X hP hw hK hc i pins s σ H E I hf st hg
  subst hP hw hK
  obtain ⟨xs, hq, hx⟩ := hg
  obtain ⟨its, rv, p, hz⟩ := I.list hq
  obtain ⟨f0, f1, f2, f3, f4, f5⟩ := hf it (by simp)
  have hl := rv.length
  exact wpAny_pyNext_list_end (I.ok.hd hc) st p.isList (by simp; omega) fun h' eb => ⟨rfl, I.turned (t' := s.toks) (fun b o hb e => eb b o hb e) f0 f1 f3 f4 f5⟩
 self := fun _ _ _ _ _ st h => wpAny_pyIter_listiter st h
theorem zjy {P : Program} {w : World} {K : PySem.W.Frag} {tg : Expr} (a it : Addr) : Turn P w K tg (Itt K a) [it] it (fun i h => h.IsTupleIter it a i) where
 mem := by simp
 obj := fun i h st b hb => by
  have e : b = it := by simpa using hb
  subst e
  obtain ⟨o, e, c, d⟩ := st
  exact ⟨o, e, fun v z => by rw [d] at z; cases z⟩
 keep := fun i h h' st k => st.at fun o e => k it (by simp) o e
 item := by
  intro X hP hw hK hc i pins s σ H E I hf st hg
  subst hP hw hK
  obtain ⟨xs, x, hq, hx⟩ := hg
  obtain ⟨its, rv, p, hz⟩ := I.tuple hq
  obtain ⟨u, hu, ru⟩ := rv.get hx
  obtain ⟨f0, f1, f2, f3, f4, f5⟩ := hf it (by simp)
  refine wpAny_pyNext_tuple_item st (show s.heap.IsTuple a its.toArray from p) (x := u) (by simpa using hu) fun h' st' sb => ?_
  have I1 : Inv X pins σ H { s with heap := h' } := I.turned (t' := s.toks) (fun b o hb e => (sb.2 b hb).trans e) f0 f1 f3 f4 f5
  obtain ⟨o, e, c, d⟩ := id st'
  exact ⟨u, rfl, zoF (s := { s with heap := h' }) e c d (by decide) ⟨x, H, I1, ru, ⟨rfl, fun ys hy => by rw [I.zfL hy hq]; exact hx⟩, st', fun b hb => (hf b hb).1⟩⟩
 done := by
  intro X hP hw hK hc i pins s σ H E I hf st hg
  subst hP hw hK
  obtain ⟨xs, hq, hx⟩ := hg
  obtain ⟨its, rv, p, hz⟩ := I.tuple hq
  obtain ⟨f0, f1, f2, f3, f4, f5⟩ := hf it (by simp)
  have hl := rv.length
  exact wpAny_pyNext_tuple_end (I.ok.hd hc) st (show s.heap.IsTuple a its.toArray from p) (by simp; omega) fun h' eb => ⟨rfl, I.turned (t' := s.toks) (fun b o hb e => eb b o hb e) f0 f1 f3 f4 f5⟩
 self := fun _ _ _ _ _ st h => wpAny_pyIter_tupleiter st h
theorem zjz {P : Program} {w : World} {K : PySem.W.Frag} {tg : Expr} (it : Addr) (lo : Int) (n : Nat) : Turn P w K tg (Itr lo n) [it] it (fun i h => IsRangeIter h it (lo + (i : Nat) * 1) ((n : Int) - (i : Nat)) 1) where
 mem := by simp
 obj := fun i h st b hb => by
  have e : b = it := by simpa using hb
  subst e
  exact ⟨_, st, fun v z => by
   have z' : Data.fields _ = Data.cell v := z
   cases z'⟩
 keep := fun i h h' st k => k it (by simp) _ st
 item := by
  intro X hP hw hK hc i pins s σ H E I hf st hg
  subst hP hw hK
  obtain ⟨f0, f1, f2, f3, f4, f5⟩ := hf it (by simp)
  have W := Walks.range (prog := X.prog) (w := X.w) (I.ok.hd hc) it lo 1 n
  refine W.item i s _ _ hg st fun v h' tk hv st' kk => ?_
  obtain ⟨t, rfl⟩ := hv
  have I1 : Inv X pins σ H { s with heap := h', toks := tk } := I.turned (fun b o hb e => kk b o (by simpa using hb) e) f0 f1 f3 f4 f5
  refine ⟨_, rfl, zoF (s := { s with heap := h', toks := tk }) (n := "range_iterator") st' rfl rfl (by decide) ⟨.int (lo + i), H, I1, ⟨t, ?_⟩, ⟨rfl, rfl⟩, st', fun b hb => (hf b hb).1⟩⟩
  rw [Int.mul_one]
 done := by
  intro X hP hw hK hc i pins s σ H E I hf st hg
  subst hP hw hK
  obtain ⟨f0, f1, f2, f3, f4, f5⟩ := hf it (by simp)
  exact wpAny_pyNext_range_end (I.ok.hd hc) st (by have : n <= i := hg; omega) fun h' eb => ⟨rfl, I.turned (t' := s.toks) (fun b o hb e => eb b o hb e) f0 f1 f3 f4 f5⟩
 self := fun _ _ _ _ _ st h => wpAny_pyIter_rangeiter st h
end L2
namespace L2
open PySem PySem.Spec PyProof.Rows
section
variable {X : Cx} {tg : Expr}
theorem zi8 {pins : List (Addr × Obj)} {σ : St} {H : Hp} {s : Shared} {R : It -> Hp -> Prop} {E : Value -> Shared -> Prop} {lo hi : Int} {t u v : Tok} {tk : Nat} (I : Inv X pins σ H s) (h1 : -(2 ^ 62) <= lo) (h2 : lo < 2 ^ 62) (h3 : -(2 ^ 62) <= hi) (h4 : hi < 2 ^ 62)
  (q : R (Itr lo (hi - lo).toNat) H) : wpAny (model X.prog X.w) X.A (pyIter (.ref s.heap.objs.size)) (PIE X pins σ tg R) E { s with heap := s.heap.push { cls := .type "range", data := .fields #[.int lo t, .int hi u, .int 1 v] }, toks := tk } := by
 refine wpAny_pyIter_range (IsRange.new ..) (small_one h1 h2 h3 h4) ?_
 have I1 : Inv X pins σ H { s with heap := s.heap.push { cls := .type "range", data := .fields #[.int lo t, .int hi u, .int 1 v] }, toks := tk } := I.kept fun b o e => Heap.get?_push_of_some _ e
 refine ⟨(s.heap.push { cls := .type "range", data := .fields #[.int lo t, .int hi u, .int 1 v] }).objs.size, [(s.heap.push { cls := .type "range", data := .fields #[.int lo t, .int hi u, .int 1 v] }).objs.size], _, _, H, rfl,
  I1.kept (t' := tk) fun b o e => Heap.get?_push_of_some _ e, zjz _ lo (hi - lo).toNat, ?_, fun b hb => ?_, q⟩
 ·have e1 : lo + ((0 : Nat) : Int) * 1 = lo := by simp
  have e2 : (((hi - lo).toNat : Nat) : Int) - ((0 : Nat) : Int) = Builtin.Range.rangeSize lo hi 1 := by rw [rangeSize_one]; split <;> omega
  show IsRangeIter _ _ (lo + ((0 : Nat) : Int) * 1) ((((hi - lo).toNat : Nat) : Int) - ((0 : Nat) : Int)) 1
  rw [e1, e2]
  exact Heap.get?_push_size _ rfl
 ·have e : b = (s.heap.push { cls := .type "range", data := .fields #[.int lo t, .int hi u, .int 1 v] }).objs.size := by simpa using hb
  subst e
  exact I1.zrE (Nat.le_refl _) (I1.hok.fresh (Nat.le_refl _))
def zqC (ta : TA) : TI := fun σ H R => ta σ H fun vs H1 => ∃ j : Int, vs = [.int j] /\ -(2 ^ 62) <= j /\ j < 2 ^ 62 /\ R (Itr 0 j.toNat) H1
def zqB (ta : TA) : TI := fun σ H R => ta σ H fun vs H1 => ∃ i j : Int, vs = [.int i, .int j] /\ (-(2 ^ 62) <= i /\ i < 2 ^ 62 /\ -(2 ^ 62) <= j /\ j < 2 ^ 62) /\ R (Itr i (j - i).toNat) H1
theorem zkT {a : Expr} {ta : TA} {p pos : Pos} (hg : Gl X "range") (hm : X.mg "range" = none) (ha : PA X [a] ta) (hs : starEach [a] X.env = [(false, eval a X.env)] := by rfl) : PI X tg (.Call (.Name "range" p) [a] [] pos) (zqC ta) := by
 intro pins s σ H R I h
 refine Call_ (zgz I hg hm boot_range (PyProof.Rows.callWith_type1 (thn (ha pos pins s σ H _ I h) fun us s1 ⟨vs, H1, I1, r1, q1⟩ => ?_) hs rfl))
 obtain ⟨j, e, q1, q2, q⟩ := q1
 subst e
 cases r1 with
 | cons r rr =>
  cases rr
  obtain ⟨t, rfl⟩ := r
  exact call_range_1 (zi8 I1 (by omega) (by omega) q1 q2 (by simpa using q))
theorem zkS {a b : Expr} {ta : TA} {p pos : Pos} (hg : Gl X "range") (hm : X.mg "range" = none) (ha : PA X [a, b] ta) (hs : starEach [a, b] X.env = [(false, eval a X.env), (false, eval b X.env)] := by rfl) (hs2 : starEach [b] X.env = [(false, eval b X.env)] := by rfl) :
  PI X tg (.Call (.Name "range" p) [a, b] [] pos) (zqB ta) := by
 intro pins s σ H R I h
 refine Call_ (zgz I hg hm boot_range (PyProof.Rows.callWith_type1 (thn (ha pos pins s σ H _ I h) fun us s1 ⟨vs, H1, I1, r1, q1⟩ => ?_) (by rw [hs, hs2]) (by rw [hs2]; rfl)))
 obtain ⟨i, j, e, ⟨q1, q2, q3, q4⟩, q⟩ := q1
 subst e
 cases r1 with
 | cons r rr =>
  cases rr with
  | cons r' rr =>
   cases rr
   obtain ⟨t, rfl⟩ := r
   obtain ⟨t', rfl⟩ := r'
   exact call_range_2 (zi8 I1 q1 q2 q3 q4 q)
def zsy (wi : TI) (g : TG) (tb : TS) : TS := fun D σ H => wi σ H fun J H1 => ∃ W : Nat -> Nat -> St -> Hp -> Prop, (∃ m, W 0 m σ H1) /\ ∀ i m σ H, W i m σ H ->
 (J.stop i H /\ D.nx σ H) \/ (J.go i H /\ ∃ N : St -> Hp -> Prop, (∀ σ' H', N σ' H' -> ∃ m', m' < m /\ W (i + 1) m' σ' H') /\ ∀ x H', J.yld i H x H' -> g x σ H' fun σ2 H2 => tb { D with nx := N, ct := N, bk := D.nx } σ2 H2)
noncomputable def zhL (fp : List Addr) (h : Heap) : List (Addr × Obj) := fp.filterMap fun b => (h.get? b).map fun o => (b, o)
theorem zd7 {fp : List Addr} {h : Heap} {b : Addr} {o : Obj} (hb : b ∈ fp) (e : h.get? b = some o) : (b, o) ∈ zhL fp h := List.mem_filterMap.mpr ⟨b, hb, by rw [e]; rfl⟩
theorem zk6 {fp : List Addr} {h : Heap} {p : Addr × Obj} (hp : p ∈ zhL fp h) : p.1 ∈ fp /\ h.get? p.1 = some p.2 := by
 obtain ⟨b, hb, e⟩ := List.mem_filterMap.mp hp
 cases q : h.get? b with
 | none => rw [q] at e; cases e
 | some o =>
  rw [q] at e
  have e' : (b, o) = p := Option.some.inj e
  subst e'
  exact ⟨hb, q⟩
theorem Inv.pinned {pins : List (Addr × Obj)} {σ : St} {H : Hp} {s : Shared} {fp : List Addr} (I : Inv X pins σ H s) (hf : ∀ b ∈ fp, zkg X pins H b) (ho : ∀ b ∈ fp, ∃ o, s.heap.get? b = some o /\ ∀ v, o.data ≠ .cell v) : Inv X (pins ++ zhL fp s.heap) σ H s :=
 I.ziE fun p hp => (List.mem_append.mp hp).elim (fun z => I.pin p (List.mem_append_right _ z)) fun z => by
  obtain ⟨hb, e⟩ := zk6 z
  obtain ⟨f0, f1, f2, _⟩ := hf p.1 hb
  obtain ⟨o, e', d⟩ := ho p.1 hb
  rw [e] at e'; cases e'
  exact ⟨e, f0, f1, f2, d⟩
theorem Inv.zev {pins pl : List (Addr × Obj)} {σ : St} {H : Hp} {s : Shared} (I : Inv X (pins ++ pl) σ H s) : Inv X pins σ H s := I.ziE fun p hp => I.pin p (List.mem_append_right _ (List.mem_append_left _ hp))
theorem zpD {iter : Expr} {body : List Stmt} {wi : TI} {g : TG} {tb : TS} {pos : Pos} (hp : PassesOwn (model X.prog X.w) X.A X.env X.xe) (hc : X.calm = true) (hi : PI X tg iter wi) (hg : PG X tg g) (hb : PSs X body tb)
  (hs : ∀ x, foldedSetIterable iter X.env x = pure x := by intro _; rfl) : PS X (.For tg iter body [] pos) (zsy wi g tb) := by
 intro pins s σ H D I h
 refine wpAny_For (thn (hi pins s σ H _ I h) fun v s1 h1 => thn h1 fun itv s2 h2 => ?_) hs
 obtain ⟨it, fp, tn, J, H2, e, I2, T, st2, f2, W, ⟨m0, w0⟩, turn⟩ := h2
 subst e
 -- what stays true of the iterator's objects through the loop
 have stat : ∀ {H' : Hp}, (∀ b ∈ fp, H' b = none) -> ∀ b ∈ fp, zkg X pins H' b := fun hn b hb => ⟨hn b hb, (f2 b hb).2⟩
 refine codeAny_forLoop_any (fun n s' => ∃ i σ' H', Inv X pins σ' H' s' /\ tn i s'.heap /\ (∀ b ∈ fp, H' b = none) /\ W i n σ' H') ?_ m0 ⟨0, σ, H2, I2, st2, fun b hb => (f2 b hb).1, w0⟩
 rintro n s3 ⟨i, σ3, H3, I3, st3, fr3, w3⟩
 rcases turn i n σ3 H3 w3 with ⟨stop, qn⟩ | ⟨go, N, hN, step⟩
 ·refine wpAny_passesOwn hp (thn (T.done X rfl rfl rfl hc i pins s3 σ3 H3 X.xe I3 (stat fr3) st3 stop) fun r s4 ⟨hr, I4⟩ => ?_)
  subst hr
  exact wpAny_execs_nil ⟨σ3, H3, I4, qn⟩
 ·refine wpAny_passesOwn hp (thn (T.item X rfl rfl rfl hc i pins s3 σ3 H3 X.xe I3 (stat fr3) st3 go) fun r s4 ⟨u, hr, h4⟩ => ?_)
  subst hr
  refine wpAny_passesOwn hp (thn h4 fun _ s5 ⟨x, H5, I5, r5, y5, st5, fr5⟩ => ?_)
  have I5' := I5.pinned (stat fr5) (T.obj _ _ st5)
  refine wpAny_passesOwn hp (thn (hg _ s5 σ3 H5 x u _ I5' r5 (step x H5 y5)) fun _ s6 ⟨σ6, H6, I6, q6⟩ => ?_)
  refine wpAny_passesOwn hp (thn (hb _ s6 σ6 H6 _ I6 q6) fun f s7 q7 => ?_)
  have again : ∀ {σ7 : St} {H7 : Hp}, Inv X (pins ++ zhL fp s5.heap) σ7 H7 s7 -> N σ7 H7 -> ∃ m, m < n /\ ∃ i σ' H', Inv X pins σ' H' s7 /\ tn i s7.heap /\ (∀ b ∈ fp, H' b = none) /\ W i m σ' H' := fun {σ7 H7} I7 n7 => by
   obtain ⟨m', hm, w7⟩ := hN σ7 H7 n7
   refine ⟨m', hm, i + 1, σ7, H7, I7.zev, T.keep _ _ _ st5 fun b hb o e => (I7.pin (b, o) (List.mem_append_right _ (List.mem_append_right _ (zd7 hb e)))).1, fun b hb => ?_, w7⟩
   obtain ⟨o, e, d⟩ := T.obj _ _ st5 b hb
   exact (I7.pin (b, o) (List.mem_append_right _ (List.mem_append_right _ (zd7 hb e)))).2.1
  cases f with
  | next => obtain ⟨σ7, H7, I7, n7⟩ := q7; exact again I7 n7
  | cont => obtain ⟨σ7, H7, I7, n7⟩ := q7; exact again I7 n7
  | brk => obtain ⟨σ7, H7, I7, q7⟩ := q7; exact ⟨σ7, H7, I7.zev, q7⟩
  | ret v => obtain ⟨x7, σ7, H7, I7, r7, q7⟩ := q7; exact ⟨x7, σ7, H7, I7.zev, r7, q7⟩
end
end L2
namespace L2
open PySem PySem.Spec PyProof.Rows
abbrev R2 := V -> V -> Hp -> VK -> Prop
def OpR (X : Cx) (f : Value -> Value -> Sem Value) (r : R2) : Prop :=
 ∀ (pins : List (Addr × Obj)) (s : Shared) (σ : St) (H : Hp) (x y : V) (v u : Value) (Q : VK), Inv X pins σ H s -> RelV x v -> RelV y u -> r x y H Q ->
  wpAny (model X.prog X.w) X.A (f v u) (EP X pins σ Q) X.xe s
def UnR (X : Cx) (f : Value -> Sem Value) (r : V -> Hp -> VK -> Prop) : Prop :=
 ∀ (pins : List (Addr × Obj)) (s : Shared) (σ : St) (H : Hp) (x : V) (v : Value) (Q : VK), Inv X pins σ H s -> RelV x v -> r x H Q ->
  wpAny (model X.prog X.w) X.A (f v) (EP X pins σ Q) X.xe s
def zcf (X : Cx) (f : Value) (r : List V -> Hp -> VK -> Prop) : Prop :=
 ∀ (pins : List (Addr × Obj)) (s : Shared) (σ : St) (H : Hp) (xs : List V) (us : List Value) (Q : VK), Inv X pins σ H s -> Vals xs us -> r xs H Q ->
  wpAny (model X.prog X.w) X.A (call f us) (EP X pins σ Q) X.xe s
def zsV (X : Cx) (r : V -> Hp -> (Bool -> Hp -> Prop) -> Prop) : Prop :=
 ∀ (pins : List (Addr × Obj)) (s : Shared) (σ : St) (H : Hp) (x : V) (v : Value) (Q : Bool -> Hp -> Prop), Inv X pins σ H s -> RelV x v -> r x H Q ->
  wpAny (model X.prog X.w) X.A (truthy v) (TP X pins σ Q) X.xe s
def tOp (r : R2) (ta tb : TE) : TE := fun σ H Q => ta σ H fun x H1 => tb σ H1 fun y H2 => r x y H2 Q
def tUn (r : V -> Hp -> VK -> Prop) (ta : TE) : TE := fun σ H Q => ta σ H fun x H1 => r x H1 Q
def rI (C : Int -> Int -> Prop) (g : Int -> Int -> V) : R2 := fun x y H Q => ∃ i j, x = .int i /\ y = .int j /\ C i j /\ Q (g i j) H
def rI0 (g : Int -> Int -> V) : R2 := fun x y H Q => ∃ i j, x = .int i /\ y = .int j /\ Q (g i j) H
def rU (g : Int -> V) : V -> Hp -> VK -> Prop := fun x H Q => ∃ i, x = .int i /\ Q (g i) H
section
variable {X : Cx} {a b c : Expr} {ta tb tc : TE} {pos : Pos}
theorem zrN (ha : PE X a ta) (hb : PE X b tb) {pins : List (Addr × Obj)} {s : Shared} {σ : St} {H : Hp} {R : V -> V -> Hp -> Prop} (I : Inv X pins σ H s)
  (h : ta σ H fun x H1 => tb σ H1 fun y H2 => R x y H2) {Q : Value -> Shared -> Prop} {f : Value -> Value -> Sem Value}
  (hf : ∀ v u s2 x y H2, Inv X pins σ H2 s2 -> RelV x v -> RelV y u -> R x y H2 -> wpAny (model X.prog X.w) X.A (f v u) Q X.xe s2) :
  wpAny (model X.prog X.w) X.A (eval a X.env) (fun v s₁ => wpAny (model X.prog X.w) X.A (eval b X.env) (fun u s₂ => wpAny (model X.prog X.w) X.A (f v u) Q X.xe s₂) X.xe s₁) X.xe s := by
 refine thn (ha pins s σ H _ I h) fun v s1 ⟨x, H1, I1, r1, q1⟩ => ?_
 refine thn (hb pins s1 σ H1 _ I1 q1) fun u s2 ⟨y, H2, I2, r2, q2⟩ => ?_
 exact hf v u s2 x y H2 I2 r1 r2 q2
theorem zrk {op : Operator} {r : R2} (ho : OpR X (binaryOp op) r) (ha : PE X a ta) (hb : PE X b tb) : PE X (.BinOp a op b pos) (tOp r ta tb) := by
 intro pins s σ H Q I h
 exact wpAny_BinOp (zrN ha hb I h fun v u s2 x y H2 I2 rx ry q => ho pins s2 σ H2 x y v u Q I2 rx ry q)
theorem zpL {op : UnaryOp} {r : V -> Hp -> VK -> Prop} (ho : UnR X (unaryOp op) r) (ha : PE X a ta) : PE X (.UnaryOp op a pos) (tUn r ta) := by
 intro pins s σ H Q I h
 exact UnaryOp_ (thn (ha pins s σ H _ I h) fun v s1 ⟨x, H1, I1, r1, q1⟩ => ho pins s1 σ H1 x v Q I1 r1 q1)
theorem opI {f : Value -> Value -> Sem Value} {C : Int -> Int -> Prop} {g : Int -> Int -> Int}
  (rule : ∀ (i j : Int) (t u : Tok) (s : Shared) (Q : Value -> Shared -> Prop) (E : Value -> Shared -> Prop), C i j -> Q (.int (g i j) s.toks) { s with toks := s.toks + 1 } -> wpAny (model X.prog X.w) X.A (f (.int i t) (.int j u)) Q E s) :
  OpR X f (rI C fun i j => .int (g i j)) := by
 intro pins s σ H x y v u Q I rx ry h
 obtain ⟨i, j, rfl, rfl, hc, q⟩ := h
 obtain ⟨t, rfl⟩ := rx
 obtain ⟨t', rfl⟩ := ry
 exact rule i j t t' s _ _ hc ⟨.int (g i j), H, I.tok _, ⟨_, rfl⟩, q⟩
theorem zru {f : Value -> Value -> Sem Value} {g : Int -> Int -> Int}
  (rule : ∀ (i j : Int) (t u : Tok) (s : Shared) (Q : Value -> Shared -> Prop) (E : Value -> Shared -> Prop), Q (.int (g i j) s.toks) { s with toks := s.toks + 1 } -> wpAny (model X.prog X.w) X.A (f (.int i t) (.int j u)) Q E s) :
  OpR X f (rI0 fun i j => .int (g i j)) := by
 intro pins s σ H x y v u Q I rx ry h
 obtain ⟨i, j, rfl, rfl, q⟩ := h
 obtain ⟨t, rfl⟩ := rx
 obtain ⟨t', rfl⟩ := ry
 exact rule i j t t' s _ _ ⟨.int (g i j), H, I.tok _, ⟨_, rfl⟩, q⟩
theorem zrv {f : Value -> Value -> Sem Value} {g : Int -> Int -> Bool}
  (rule : ∀ (i j : Int) (t u : Tok) (s : Shared) (Q : Value -> Shared -> Prop) (E : Value -> Shared -> Prop), Q (.bool (g i j)) s -> wpAny (model X.prog X.w) X.A (f (.int i t) (.int j u)) Q E s) :
  OpR X f (rI0 fun i j => .bl (g i j)) := by
 intro pins s σ H x y v u Q I rx ry h
 obtain ⟨i, j, rfl, rfl, q⟩ := h
 obtain ⟨t, rfl⟩ := rx
 obtain ⟨t', rfl⟩ := ry
 exact rule i j t t' s _ _ ⟨.bl (g i j), H, I, rfl, q⟩
def zeq (i j : Int) : Prop := 0 < j /\ j < 1073741824
def znL (i j : Int) : Prop := 0 <= j /\ j <= 1000000 /\ i.natAbs < 2 ^ 64
def ziZ (i j : Int) : Prop := (-(2 ^ 64) < i /\ i < 2 ^ 64) \/ (-(2 ^ 64) < j /\ j < 2 ^ 64)
theorem ziZ.ok {i j : Int} (h : ziZ i j) : IntMulOk i j := by
 rcases h with ⟨h1, h2⟩ | ⟨h1, h2⟩
 ·exact .of_left (intBits_le_64 h1 h2)
 ·exact .of_right (intBits_le_64 h1 h2)
theorem zjx (k : Nat) : (0 : Int) <= 2 ^ k := by
 rw [two_pow_cast]
 exact Int.natCast_nonneg _
theorem zqc : OpR X (binaryOp .Add) (rI0 fun i j => .int (i + j)) := zru fun _ _ _ _ _ _ _ q => add_int q
theorem zp1 : OpR X (binaryOp .Sub) (rI0 fun i j => .int (i - j)) := zru fun _ _ _ _ _ _ _ q => sub_int q
theorem zp5 : OpR X (binaryOp .Mult) (rI ziZ fun i j => .int (i * j)) := opI fun _ _ _ _ _ _ _ hc q => mul_int q hc.ok
theorem zon : OpR X (binaryOp .FloorDiv) (rI zeq fun i j => .int (i / j)) := opI fun i j _ _ _ _ _ hc q => by
 have h1 : (0 : Int) < j := hc.1
 have h2 : j < 1073741824 := hc.2
 exact floordiv_int (by omega) (by rw [Int.fdiv_eq_ediv_of_nonneg i (by omega)]; exact q) (.inl (PyProof.noPylong_small (by omega)))
theorem zp6 : OpR X (binaryOp .Mod) (rI (fun _ j => 0 < j) fun i j => .int (i % j)) := opI fun i j _ _ _ _ _ hc q => by
 have h1 : (0 : Int) < j := hc
 exact mod_int' (by omega) (by rw [Int.fmod_eq_emod_of_nonneg i (by omega)]; exact q)
theorem zp3 : OpR X (binaryOp .Pow) (rI znL fun i j => .int (i ^ j.toNat)) := opI fun _ _ _ _ _ _ _ hc q => pow_int_small hc.1 hc.2.1 hc.2.2 q
theorem zp2 : OpR X (binaryOp .RShift) (rI (fun _ j => 0 <= j) fun i j => .int (i / 2 ^ j.toNat)) := opI fun i j _ _ _ _ _ hc q =>
 rshift_int hc (by rw [Int.fdiv_eq_ediv_of_nonneg i (zjx _)]; exact q)
theorem zqb : OpR X (binaryOp .BitAnd) (rI0 fun i j => .int (Builtin.bitAnd i j)) := zru fun _ _ _ _ _ _ _ q => and_int q
theorem unI {f : Value -> Sem Value} {g : Int -> Int}
  (rule : ∀ (i : Int) (t : Tok) (s : Shared) (Q : Value -> Shared -> Prop) (E : Value -> Shared -> Prop), Q (.int (g i) s.toks) { s with toks := s.toks + 1 } -> wpAny (model X.prog X.w) X.A (f (.int i t)) Q E s) :
  UnR X f (rU fun i => .int (g i)) := by
 intro pins s σ H x v Q I rx h
 obtain ⟨i, rfl, q⟩ := h
 obtain ⟨t, rfl⟩ := rx
 exact rule i t s _ _ ⟨.int (g i), H, I.tok _, ⟨_, rfl⟩, q⟩
theorem znb : UnR X (unaryOp .USub) (rU fun i => .int (-i)) := unI fun _ _ _ _ _ q => neg_int q
end
section
variable {X : Cx} {a b c : Expr} {ta tb tc : TE} {pos : Pos}
theorem znF {pins : List (Addr × Obj)} {σ : St} {H : Hp} {s : Shared} {Q : VK} {k k' : Bool} (I : Inv X pins σ H s) (q : Q (.bl k) H) (e : k = k') : EP X pins σ Q (.bool k') s := by
 subst e
 exact ⟨.bl k, H, I, rfl, q⟩
theorem zrs : OpR X (compareOp .Lt) (rI0 fun i j => .bl (decide (i < j))) := zrv fun _ _ _ _ _ _ _ q => lt_int q
theorem zk2 : OpR X (compareOp .LtE) (rI0 fun i j => .bl (decide (i <= j))) := zrv fun _ _ _ _ _ _ _ q => le_int q
theorem zrt : OpR X (compareOp .Gt) (rI0 fun i j => .bl (decide (j < i))) := zrv fun _ _ _ _ _ _ _ q => gt_int q
theorem zp8 : OpR X (compareOp .Is) (fun x y H Q => y = .non /\ Q (.bl (decide (x = .non))) H) := by
 intro pins s σ H x y v u Q I rx ry h
 obtain ⟨rfl, q⟩ := h
 cases ry
 refine is_none_gen (znF I q ?_)
 cases x <;> first
  | (cases rx; rfl)
  | (obtain ⟨t, rfl⟩ := rx; rfl)
theorem zok : OpR X (compareOp .IsNot) (fun x y H Q => y = .non /\ Q (.bl (!decide (x = .non))) H) := by
 intro pins s σ H x y v u Q I rx ry h
 obtain ⟨rfl, q⟩ := h
 cases ry
 refine isnot_none_gen (znF I q ?_)
 cases x <;> first
  | (cases rx; rfl)
  | (obtain ⟨t, rfl⟩ := rx; rfl)
theorem OpR.or {f : Value -> Value -> Sem Value} {r r' : R2} (h : OpR X f r) (h' : OpR X f r') : OpR X f (fun x y H Q => r x y H Q \/ r' x y H Q) := by
 intro pins s σ H x y v u Q I rx ry q
 rcases q with q | q
 ·exact h pins s σ H x y v u Q I rx ry q
 ·exact h' pins s σ H x y v u Q I rx ry q
theorem zeV (b : Expr) {op : CmpOp} (h : op ≠ .In := by decide) (h2 : op ≠ .NotIn := by decide) : behindInMarks op b = false := by
 have e1 : (op == CmpOp.In) = false := by cases op <;> first | rfl | exact absurd rfl h
 have e2 : (op == CmpOp.NotIn) = false := by cases op <;> first | rfl | exact absurd rfl h2
 cases b <;> simp [behindInMarks, e1, e2]
theorem zn7 {op : CmpOp} {r : R2} (ho : OpR X (compareOp op) r) (ha : PE X a ta) (hb : PE X b tb) (hm : behindInMarks op b = false) : PE X (.Compare a [op] [b] pos) (tOp r ta tb) := by
 intro pins s σ H Q I h
 exact wpAny_Compare1 (zrN ha hb I h fun v u s2 x y H2 I2 rx ry q => ho pins s2 σ H2 x y v u Q I2 rx ry q) hm
def zpf (t : TE) : TT := fun σ H Q => t σ H fun x H' => ∃ k, x = .bl k /\ Q k H'
theorem znZ {op : CmpOp} {r : R2} (ho : OpR X (compareOp op) r) (ha : PE X a ta) (hb : PE X b tb) (hm : behindInMarks op b = false) : PT X (.Compare a [op] [b] pos) (zpf (tOp r ta tb)) := by
 intro pins s σ H Q I h
 refine wpAny_isTrue_Compare1 (thn (ha pins s σ H _ I h) fun v s1 ⟨x, H1, I1, r1, q1⟩ => thn (hb pins s1 σ H1 _ I1 q1) fun u s2 ⟨y, H2, I2, r2, q2⟩ =>
  thn (ho pins s2 σ H2 x y v u _ I2 r1 r2 q2) fun c s3 ⟨z, H3, I3, r3, k, e, q3⟩ => ?_) hm
 subst e
 cases r3
 exact wpAny_truthy_bool ⟨H3, I3, q3⟩
def zkv (r r' : R2) (ta tb tc : TE) : TE := fun σ H Q => ta σ H fun x H1 => tb σ H1 fun y H2 => r x y H2 fun z H3 => ∃ k, z = .bl k /\
 (if k = true then tc σ H3 fun w' H4 => r' y w' H4 Q else Q (.bl false) H3)
theorem zms {op op' : CmpOp} {r r' : R2} (ho : OpR X (compareOp op) r) (ho' : OpR X (compareOp op') r') (ha : PE X a ta) (hb : PE X b tb) (hc : PE X c tc)
  (hm : lastMarks [op, op'] [b, c] = false := by with_unfolding_all rfl) : PE X (.Compare a [op, op'] [b, c] pos) (zkv r r' ta tb tc) := by
 intro pins s σ H Q I h
 refine Compare_chain (thn (ha pins s σ H _ I h) fun v s1 ⟨x, H1, I1, r1, q1⟩ => chain_link (thn (hb pins s1 σ H1 _ I1 q1) fun u s2 ⟨y, H2, I2, r2, q2⟩ =>
  thn (ho pins s2 σ H2 x y v u _ I2 r1 r2 q2) fun d s3 ⟨z, H3, I3, r3, k, e, q3⟩ => ?_)) hm
 subst e
 cases r3
 refine wpAny_truthy_bool ?_
 cases k with
 | false => exact ite_ff ⟨.bl false, H3, I3, rfl, q3⟩
 | true => exact ite_tt (chain_last (thn (hc pins s3 σ H3 _ I3 q3) fun w' s4 ⟨z', H4, I4, r4, q4⟩ => ho' pins s4 σ H4 y z' u w' Q I4 r2 r4 q4))
theorem zml {op op' : CmpOp} {r r' : R2} (ho : OpR X (compareOp op) r) (ho' : OpR X (compareOp op') r') (ha : PE X a ta) (hb : PE X b tb) (hc : PE X c tc)
  (hm : lastMarks [op, op'] [b, c] = false := by with_unfolding_all rfl) : PT X (.Compare a [op, op'] [b, c] pos) (zpf (zkv r r' ta tb tc)) := by
 intro pins s σ H Q I h
 refine isTrue_chain (thn (ha pins s σ H _ I h) fun v s1 ⟨x, H1, I1, r1, q1⟩ => test_link (thn (hb pins s1 σ H1 _ I1 q1) fun u s2 ⟨y, H2, I2, r2, q2⟩ =>
  thn (ho pins s2 σ H2 x y v u _ I2 r1 r2 q2) fun d s3 ⟨z, H3, I3, r3, k, e, q3⟩ => ?_)) hm
 subst e
 cases r3
 refine wpAny_truthy_bool ?_
 cases k with
 | false =>
  obtain ⟨k', e', q'⟩ := q3
  cases e'
  exact ite_ff ⟨H3, I3, q'⟩
 | true =>
  refine ite_tt (test_last (thn (hc pins s3 σ H3 _ I3 q3) fun w' s4 ⟨z', H4, I4, r4, q4⟩ => thn (ho' pins s4 σ H4 y z' u w' _ I4 r2 r4 q4) fun d' s5 ⟨z2, H5, I5, r5, k2, e2, q5⟩ => ?_))
  subst e2
  cases r5
  exact wpAny_truthy_bool ⟨H5, I5, q5⟩
def zrP (K : PySem.W.Frag) (x : V) (H : Hp) (k : Bool) : Prop :=
 match x with
 | .non => k = false
 | .bl b => k = b
 | .int i => k = (i != 0)
 | .str y => y.length <= sizeLine /\ k = ((y.length : Int) != 0)
 | .byt y => y.size <= sizeLine /\ k = ((y.size : Int) != 0)
 | .ref p => (∃ xs, SqL K H p xs /\ k = !xs.isEmpty) \/ (∃ xs, SqT K H p xs /\ k = !xs.isEmpty) \/ ∃ kvs, H p = some (.dK kvs) /\ k = !kvs.isEmpty
 | _ => False
theorem zjX {κ : Type} {kvs : List (κ × V)} {vs : List (κ × Value)} (r : KV kvs vs) : (!vs.isEmpty) = !kvs.isEmpty := by
 cases r <;> rfl
theorem zgA {xs : List V} {its : List Value} (r : Vals xs its) : (!its.toArray.isEmpty) = !xs.isEmpty := by
 cases r <;> simp
theorem zf2 : (sizeLine : Nat) < 2 ^ 63 := by rw [sizeLine_eq]; decide
theorem zpe : zsV X (fun x H Q => ∃ k, zrP X.K x H k /\ Q k H) := by
 intro pins s σ H x v Q I rx h
 obtain ⟨k, e, q⟩ := h
 have hl := zf2
 have hs : sizeLine = 16777216 := sizeLine_eq
 cases x with
 | non =>
  cases rx
  have e' : k = false := e
  subst e'
  exact truthy_none ⟨H, I, q⟩
 | bl b =>
  cases rx
  have e' : k = b := e
  subst e'
  exact wpAny_truthy_bool ⟨H, I, q⟩
 | int i =>
  obtain ⟨t, rfl⟩ := rx
  have e' : k = (i != 0) := e
  subst e'
  exact PySem.P.truthy_int ⟨H, I, q⟩
 | str y =>
  obtain ⟨t, rfl⟩ := rx
  obtain ⟨hy, e'⟩ : y.length <= sizeLine /\ k = ((y.length : Int) != 0) := e
  subst e'
  exact PySem.P.truthy_str (by omega) ⟨H, I.tok _, q⟩
 | byt y =>
  obtain ⟨t, rfl⟩ := rx
  obtain ⟨hy, e'⟩ : y.size <= sizeLine /\ k = ((y.size : Int) != 0) := e
  subst e'
  exact PySem.W.truthy_bytes (by omega) ⟨H, I.tok _, q⟩
 | ref p =>
  cases rx
  have e' : (∃ xs, SqL X.K H p xs /\ k = !xs.isEmpty) \/ (∃ xs, SqT X.K H p xs /\ k = !xs.isEmpty) \/ ∃ kvs, H p = some (.dK kvs) /\ k = !kvs.isEmpty := e
  rcases e' with ⟨xs, hx, e'⟩ | ⟨xs, hx, e'⟩ | ⟨kvs, hx, e'⟩
  ·subst e'
   obtain ⟨its, r, pl, hz⟩ := I.list hx
   have hlen := r.length
   exact wpAny_truthy_list pl.isList (by simp only [List.size_toArray]; omega) ⟨H, I.tok _, by rw [zgA r]; exact q⟩
  ·subst e'
   obtain ⟨its, r, pl, hz⟩ := I.tuple hx
   have hlen := r.length
   exact truthy_tuple pl (by simp only [List.size_toArray]; omega) ⟨H, I.tok _, by rw [zgA r]; exact q⟩
  ·subst e'
   obtain ⟨hz, hS, vs, r, m⟩ : kvs.length <= sizeLine /\ (p == sysModules) = false /\ ∃ vs, KV kvs vs /\ s.heap.DictOf (ziN X.prog X.w) p vs := I.hok p _ hx
   have hlen : kvs.length = vs.length := Paired.length r
   exact wpAny_truthy_dict hS m (by omega) ⟨H, I.tok _, by rw [zjX r]; exact q⟩
 | _ => exact (show False from e).elim
theorem zmk (ha : PE X a ta) (he : ∀ whole, isTrue a X.env whole = (do let v <- whole; standAt a.pos; holding [v] (truthy v))) :
  PT X a (fun σ H Q => ta σ H fun x H' => ∃ k, zrP X.K x H' k /\ Q k H') := by
 intro pins s σ H Q I h
 exact isTrue_plain (thn (ha pins s σ H _ I h) fun v s1 ⟨x, H1, I1, r1, q1⟩ => zpe pins s1 σ H1 x v Q I1 r1 q1) (he _)
theorem zjR : OpR X (binaryOp .Add) (fun x y H Q => ∃ i j, x = .str i /\ y = .str j /\ i.length + j.length <= sizeLine /\ Q (.str (i ++ j)) H) := by
 intro pins s σ H x y v u Q I rx ry h
 obtain ⟨i, j, rfl, rfl, hz, q⟩ := h
 obtain ⟨t, rfl⟩ := rx
 obtain ⟨t', rfl⟩ := ry
 exact add_str (fun t' tk => ⟨.str (i ++ j), H, I.tok _, ⟨_, rfl⟩, q⟩) hz
theorem vals1 {x : V} {us : List Value} (r : Vals [x] us) : ∃ u, us = [u] /\ RelV x u := by
 cases r with
 | cons r1 r2 => cases r2; exact ⟨_, rfl, r1⟩
theorem vals2 {x y : V} {us : List Value} (r : Vals [x, y] us) : ∃ u w', us = [u, w'] /\ RelV x u /\ RelV y w' := by
 cases r with
 | cons r1 r2 =>
  cases r2 with
  | cons r3 r4 => cases r4; exact ⟨_, _, rfl, r1, r3⟩
end
end L2
namespace L2
open PySem PySem.Spec PyProof.Rows
section
variable {prog : Program} {w : World} {A : Around} {E : Value -> Shared -> Prop} {s : Shared} {K : PySem.W.Frag} {x dx C f : Addr} {mA : Str -> Option Value} {name : Str} {v : Value}
end
section
variable {P : Program} {w : World} {H H' : Hp} {h h' : Heap} {a C dx : Addr} {fs fs' : List (Str × V)}
end
section
variable {X : Cx} {pins : List (Addr × Obj)} {σ : St} {H : Hp} {s : Shared} {a C dx : Addr} {fs : List (Str × V)} {f : Str} {v : V} {A : Around} {E : Value -> Shared -> Prop}
end
section
variable {X : Cx} {o e value : Expr} {f : Str} {pos pos' tpos : Pos} {ta tv : TE}
end
section
variable {X : Cx} {pins : List (Addr × Obj)} {σ : St} {H : Hp} {s : Shared} {A : Around} {E : Value -> Shared -> Prop} {Q : Value -> Shared -> Prop} {c : Value} {b : Bool}
end
end L2
namespace L2
open PySem PySem.Spec PyProof.Rows
structure ze2 (k : Nat) (A : Around) : Prop where
 hd : A.handled = none
 dp : A.depth + 3 * k + 5 < recursionLimit
 un : A.units + 16 * k + 200 < cLine
theorem ze2.mono {j k : Nat} {A : Around} (r : ze2 k A) (h : j <= k) : ze2 j A := ⟨r.hd, by have := r.dp; omega, by have := r.un; omega⟩
theorem ze2.deeper {k : Nat} {A : Around} (r : ze2 (k + 1) A) (env : Env) : ze2 k (A.deeper env) :=
 ⟨r.hd, by have := r.dp; show A.depth + 1 + 3 * k + 5 < _; omega, by have := r.un; show A.units + 3 + 16 * k + 200 < _; omega⟩
theorem ze2.depth {k : Nat} {A : Around} (r : ze2 k A) : A.depth < recursionLimit := by have := r.dp; omega
theorem ze2.units {k : Nat} {A : Around} (r : ze2 k A) : A.units + 64 < cLine := by have := r.un; omega
def zrZ : TA := fun _ H Q => Q [] H
def zph (ta : TE) (tr : TA) : TA := fun σ H Q => ta σ H fun x H1 => tr σ H1 fun xs H2 => Q (x :: xs) H2
section
variable {X : Cx} {e : Expr} {es : List Expr} {te : TE} {t : TA} {pos : Pos}
theorem zhR : PA X [] zrZ := fun _ _ _ _ H Q I h => Calls.spliced_nil ⟨[], H, I, .nil, h⟩
theorem zfc (ha : PE X e te) (hr : PA X es t) (hs : starEach (e :: es) X.env = (false, eval e X.env) :: starEach es X.env := by rfl) : PA X (e :: es) (zph te t) := by
 intro pos pins s σ H Q I h
 rw [hs]
 show wpAny _ _ (spliced ((false, eval e X.env) :: backTo pos (starEach es X.env))) _ _ s
 refine Calls.spliced_cons (thn (ha pins s σ H _ I h) fun u s1 ⟨x, H1, I1, r1, q1⟩ => ?_)
 exact thn (hr pos pins s1 σ H1 _ I1 q1) fun us s2 ⟨xs, H2, I2, r2, q2⟩ => ⟨x :: xs, H2, I2, .cons r1 r2, q2⟩
def zsr (t : TA) : TE := fun σ H Q => t σ H fun xs H1 => xs.length <= sizeLine /\ ∀ p, H1 p = none -> Q (.ref p) (upd H1 p (.tup xs))
def zsw (t : TA) : TE := fun σ H Q => t σ H fun xs H1 => xs.length <= sizeLine /\ ∀ p, H1 p = none -> Q (.ref p) (upd H1 p (.lst xs))
theorem zpM {x1} (h : PA X es t) : PE X (.Tuple es x1 pos) (zsr t) := by
 intro pins s σ H Q I hq
 refine wpAny_Tuple_spliced (thn (h pos pins s σ H _ I hq) fun us s1 ⟨xs, H1, I1, r, z, q⟩ => ⟨by rw [<- r.length]; exact z, ?_⟩)
 have hf : H1 s1.heap.objs.size = none := I1.hok.fresh (Nat.le_refl _)
 refine ⟨.ref s1.heap.objs.size, upd H1 s1.heap.objs.size (.tup xs), I1.laid (t' := s1.toks) (fun b u e => Heap.get?_push_of_some _ e) (Nat.le_refl _) ?_, rfl, q _ hf⟩
 exact ⟨z, us, r, ⟨_, Heap.get?_push_size _ rfl, rfl, _, rfl⟩⟩
theorem zpS (h : PA X es t) : PE X (.List es pos) (zsw t) := by
 intro pins s σ H Q I hq
 refine wpAny_List_spliced (thn (h pos pins s σ H _ I hq) fun us s1 ⟨xs, H1, I1, r, z, q⟩ => ⟨by rw [<- r.length]; exact z, ?_⟩)
 have hf : H1 s1.heap.objs.size = none := I1.hok.fresh (Nat.le_refl _)
 refine ⟨.ref s1.heap.objs.size, upd H1 s1.heap.objs.size (.lst xs), I1.laid (t' := s1.toks) (fun b u e => Heap.get?_push_of_some _ e) (Nat.le_refl _) ?_, rfl, q _ hf⟩
 exact ⟨z, us, 0, r, Heap.get?_push_size _ rfl⟩
end
abbrev Sp := List V -> Hp -> VK -> XK -> Prop
abbrev CXT := List Env -> Hp -> Shared -> XK -> Value -> Shared -> Prop
structure zq5 (P : Program) (w : World) (K : PySem.W.Frag) (mg : Str -> Option Value) (base : Heap) (A : Around) (outer : List Env) (s : Shared) (H : Hp) : Prop where
 frames : A.frames = some outer
 mod : Mod K mg base
 bs : ∀ b o, base.get? b = some o -> s.heap.get? b = some o /\ H b = none
 bsz : base.objs.size <= s.heap.objs.size
 zlx : s.heap.FunFrames base outer
 frf : ∀ b ∈ frs outer, H b = none
 hok : HOk P w H s.heap
 bare : AllBare s.gens
def CE (outer : List Env) (P : Program) (w : World) (H : Hp) (s : Shared) (Q : VK) (u : Value) (s' : Shared) : Prop :=
 ∃ v H', s'.os = s.os /\ AllBare s'.gens /\ Un (frs outer) [] H H' s.heap s'.heap /\ HOk P w H' s'.heap /\ RelV v u /\ Q v H'
def CR (CX : CXT) (outer : List Env) (P : Program) (w : World) (H : Hp) (s : Shared) (Q : VK) (E : XK) (r : Result) (s' : Shared) : Prop :=
 match r with
 | .ok (.ret u) => CE outer P w H s Q u s'
 | .ok _ => False
 | .error e => CX outer H s E e s'
structure zkm (P : Program) (w : World) (K : PySem.W.Frag) (mg : Str -> Option Value) (base : Heap) (CX : CXT) (k : Nat) (f : Addr) (fd : FuncData) (ps : List Str) (sp : Sp) : Prop where
 len : ∀ vs H Q E, sp vs H Q E -> vs.length = ps.length
 run : ∀ (A : Around) (outer : List Env) (s : Shared) (H : Hp) (args : Args) (us : List Value) (vs : List V) (Q : VK) (E : XK), ze2 k A -> zq5 P w K mg base A outer s H -> BindsTo s fd args (ps.zip us) -> Vals vs us -> sp vs H Q E ->
  codeAny (model P w) A (.call (.ref f) args) (CR CX outer P w H s Q E) s
section
variable {X : Cx} {pins : List (Addr × Obj)} {σ : St} {H : Hp} {s s' : Shared}
theorem Inv.zsN (I : Inv X pins σ H s) : zq5 X.prog X.w X.K X.mg X.base X.A X.stack s H :=
 ⟨I.ok.frames, I.ok.mod, I.bs, Nat.le_trans I.ok.bsz I.sz, I.stack, I.zkz, I.hok, I.bare⟩
theorem Inv.after {Q : VK} {u : Value} (I : Inv X pins σ H s) (h : CE X.stack X.prog X.w H s Q u s') : EP X pins σ Q u s' := by
 obtain ⟨v, H', os, bare, un, hok, r, q⟩ := h
 obtain ⟨hh, g, d, t, os'⟩ := s'
 obtain rfl : os' = s.os := os
 exact ⟨v, H', I.call (h' := hh) (g' := g) (d' := d) (t' := t) (ch := []) un hok bare (fun b z => absurd z (by simp)), r, q⟩
end
def zpi (sp : Sp) (dvs : List V) (E : XK) (t : TA) : TE := fun σ H Q => t σ H fun vs H1 => sp (vs ++ dvs) H1 Q E
def Binds (K : PySem.W.Frag) (fd : FuncData) (ps : List Str) (ds : List Value) : Prop :=
 ∀ (s : Shared) (us : List Value), K.In s.heap -> (us ++ ds).length = ps.length -> BindsTo s fd ⟨us, []⟩ (ps.zip (us ++ ds))
theorem Binds.all {K : PySem.W.Frag} {fd : FuncData} {ps : List Str} (h : ∀ us : List Value, us.length = ps.length -> bindArgs fd ⟨us, []⟩ = pure (ps.zip us)) : Binds K fd ps [] := fun s us _ hl => by
 rw [List.append_nil] at hl ⊢
 exact .of_eq (h us hl)
def Passes (CX : CXT) (X : Cx) (E : XK) : Prop := ∀ (pins : List (Addr × Obj)) (σ : St) (H : Hp) (s : Shared) (e : Value) (s' : Shared), Inv X pins σ H s -> CX X.stack H s E e s' -> X.xe e s'
section
variable {X : Cx} {CX : CXT} {k : Nat} {f C : Addr} {fd : FuncData} {ps : List Str} {sp : Sp} {dvs : List V} {ds : List Value} {E : XK} {x m : Str} {p pos apos : Pos} {e o : Expr} {es : List Expr} {ta : TE} {t : TA}
theorem zpq {pins : List (Addr × Obj)} {σ : St} {H : Hp} {s : Shared} {Q : VK} {us : List Value} {vs : List V} (F : zkm X.prog X.w X.K X.mg X.base CX k f fd ps sp) (hr : ze2 k X.A) (hb : Binds X.K fd ps ds) (hd : Vals dvs ds) (hx : Passes CX X E)
  (I : Inv X pins σ H s) (r : Vals vs us) (h : sp (vs ++ dvs) H Q E) : wpAny (model X.prog X.w) X.A (call (.ref f) us) (EP X pins σ Q) X.xe s := by
 have r2 : Vals (vs ++ dvs) (us ++ ds) := r.append hd
 have hl : (us ++ ds).length = ps.length := by rw [<- r2.length]; exact F.len _ _ _ _ h
 refine wpAny_call (codeAny_mono (F.run X.A X.stack s H ⟨us, []⟩ (us ++ ds) (vs ++ dvs) Q E hr I.zsN (hb s us I.kIn hl) r2 h) fun r s' hq => ?_)
 cases r with
 | error e => exact hx pins σ H s e s' I hq
 | ok fl =>
  cases fl with
  | ret u => exact I.after hq
  | next => exact False.elim hq
  | brk => exact False.elim hq
  | cont => exact False.elim hq
theorem zn8 (F : zkm X.prog X.w X.K X.mg X.base CX k f fd ps sp) (hr : ze2 k X.A) (hg : Gl X x) (hm : X.mg x = some (.ref f)) (hk : PySem.W.keepIn X.K (.ref f) = true) (hb : Binds X.K fd ps ds) (hd : Vals dvs ds) (hx : Passes CX X E)
  (ha : PA X (e :: es) t) (hdb : (x == ("__debug__" : Str)) = false := by decide) (he : starEach (e :: es) X.env = (false, eval e X.env) :: starEach es X.env := by rfl) (hpl : (backTo pos (starEach es X.env)).any (·.1) = false := by rfl) :
  PE X (.Call (.Name x p) (e :: es) [] pos) (zpi sp dvs E t) := by
 intro pins s σ H Q I h
 refine wpAny_Call_Name_kw (zld I hg hm ?_ hdb)
 refine PySem.W.callWith_K (h₀ := X.base) I.ok.mod.kin hk (thn (ha pos pins s σ H _ I h) fun us s1 ⟨vs, H1, I1, r, q⟩ => ⟨I1.kIn, ?_⟩) he hpl
 exact zpq F hr hb hd hx I1 r q
end
section
variable {X : Cx} {CX : CXT} {k : Nat} {f C : Addr} {fd : FuncData} {ps ks : List Str} {sp : Sp} {E : XK} {x m : Str} {p pos apos kpos : Pos} {e o : Expr} {es : List Expr} {kws : List Keyword} {te ta : TE} {t tk : TA} {nm : Option Str}
variable {g : List Value -> List Value -> List Value} {gV : List V -> List V -> List V}
end
structure zaM (N P : List Str) (sc : Scope) : Prop where
 kind : sc.kind = .function
 co : sc.isCoroutine = false
 gen : sc.isGenerator = false
 nd : N.Nodup
 pre : N.take P.length = P
 par : ∀ x ∈ P, sc.names.lookup x = some .local \/ sc.names.lookup x = some .cell
 zql : ∀ y ∈ sc.names, y.2 ≠ .free
theorem zil {kindOf : Str -> Option NameKind} {x : Str} : ∀ {binds : List (Str × Value)} {m : Str -> Option Value}, (∀ v, (x, v) ∉ binds) -> bindL kindOf binds m x = m x
 | [], _, _ => rfl
 | (n, v) :: r, m, h => by
  unfold bindL
  rw [zil fun w hw => h w (List.mem_cons_of_mem _ hw)]
  split
  ·have : x ≠ n := by rintro rfl; exact h v List.mem_cons_self
   simp [this]
  ·rfl
theorem zin {kindOf : Str -> Option NameKind} {x : Str} : ∀ {binds : List (Str × Value)} {m : Str -> Option Value}, (∀ v, (x, v) ∉ binds) -> bindC kindOf binds m x = m x
 | [], _, _ => rfl
 | (n, v) :: r, m, h => by
  unfold bindC
  rw [zin fun w hw => h w (List.mem_cons_of_mem _ hw)]
  split
  ·rfl
  ·have : x ≠ n := by rintro rfl; exact h v List.mem_cons_self
   simp [this]
theorem zim {kindOf : Str -> Option NameKind} {x : Str} {v : Value} : ∀ {P : List Str} {vs : List Value} {i : Nat} {m : Str -> Option Value}, P.Nodup -> P[i]? = some x -> vs[i]? = some v -> kindOf x = some .local ->
  bindL kindOf (P.zip vs) m x = some v
 | [], _, _, _, _, h, _, _ => by simp at h
 | _ :: _, [], _, _, _, _, h, _ => by simp at h
 | p :: P, w :: vs, 0, m, nd, h1, h2, hk => by
  simp at h1 h2; subst h1; subst h2
  show bindL kindOf ((p, w) :: P.zip vs) m p = _
  unfold bindL
  rw [zil fun v hv => (List.nodup_cons.mp nd).1 (List.of_mem_zip hv).1, if_pos hk]
  simp
 | p :: P, w :: vs, i + 1, m, nd, h1, h2, hk => by
  show bindL kindOf ((p, w) :: P.zip vs) m x = _
  unfold bindL
  exact zim (i := i) (List.nodup_cons.mp nd).2 (by simpa using h1) (by simpa using h2) hk
theorem zio {kindOf : Str -> Option NameKind} {x : Str} {v : Value} : ∀ {P : List Str} {vs : List Value} {i : Nat} {m : Str -> Option Value}, P.Nodup -> P[i]? = some x -> vs[i]? = some v -> kindOf x ≠ some .local ->
  bindC kindOf (P.zip vs) m x = some v
 | [], _, _, _, _, h, _, _ => by simp at h
 | _ :: _, [], _, _, _, _, h, _ => by simp at h
 | p :: P, w :: vs, 0, m, nd, h1, h2, hk => by
  simp at h1 h2; subst h1; subst h2
  show bindC kindOf ((p, w) :: P.zip vs) m p = _
  unfold bindC
  rw [zin fun v hv => (List.nodup_cons.mp nd).1 (List.of_mem_zip hv).1, if_neg hk]
  simp
 | p :: P, w :: vs, i + 1, m, nd, h1, h2, hk => by
  show bindC kindOf ((p, w) :: P.zip vs) m x = _
  unfold bindC
  exact zio (i := i) (List.nodup_cons.mp nd).2 (by simpa using h1) (by simpa using h2) hk
noncomputable def start (N : List Str) (vs : List V) : St := vs.map some ++ List.replicate (N.length - vs.length) none
noncomputable def zmS (CX : CXT) (P : Program) (w : World) (K : PySem.W.Frag) (mg : Str -> Option Value) (base : Heap) (N : List Str) (qual : Str) (scope : Scope) (f : Addr) (cd : Value) (A : Around) (outer : List Env) (s : Shared) (H : Hp) (E : XK) : Cx where
 prog := P
 w := w
 K := K
 mg := mg
 base := base
 A := A.deeper (envOfC qual scope s.heap.objs.size f cd)
 N := N
 s₀ := s
 H₀ := H
 env := envOfC qual scope s.heap.objs.size f cd
 outer := outer
 stack := envOfC qual scope s.heap.objs.size f cd :: outer
 ex := []
 calm := true
 fn := fun _ => true
 pn := []
 xe := fun e s' => wpAny (model P w) (A.deeper (envOfC qual scope s.heap.objs.size f cd)) (leaving (envOfC qual scope s.heap.objs.size f cd) e) (fun _ s'' => CX outer H s E e s'') (fun e' s'' => CX outer H s E e' s'') s'
theorem zjp {sc : Scope} {n : Nat} {x : Str} (h : sc.names.lookup x = some .cell) : ∃ c, (cellsFrom n sc.names []).lookup x = some c := by
 have q := PySem.W.cellsFrom_some sc.names n [] (.inl h)
 exact Option.isSome_iff_exists.mp q
theorem zlm {CX : CXT} {P : Program} {w : World} {K : PySem.W.Frag} {mg : Str -> Option Value} {base : Heap} {N ps : List Str} {qual : Str} {scope : Scope} {f : Addr} {cd : Value} {A : Around} {outer : List Env} {s s1 : Shared} {H : Hp} {E : XK} {us : List Value} {vs : List V}
  (S : zaM N ps scope) (hd : A.handled = none) (e0 : zq5 P w K mg base A outer s H) (hl : vs.length = ps.length) (r : Vals vs us)
  (x : InCallC s s.heap.objs.size (bindL (envOfC qual scope s.heap.objs.size f cd).kindOf (ps.zip us) fun _ => none) (cellsFrom (s.heap.objs.size + 1) scope.names []) (bindC (envOfC qual scope s.heap.objs.size f cd).kindOf (ps.zip us) fun _ => none) s1) :
  Inv (zmS CX P w K mg base N qual scope f cd A outer s H E) [] (start N vs) H s1 := by
 have hpl : ps.length <= N.length := by have := congrArg List.length S.pre; rw [List.length_take] at this; omega
 obtain ⟨h1, tk, rfl, hk⟩ := x.done
 have noA : ∀ b : Addr, b ∉ (zmS CX P w K mg base N qual scope f cd A outer s H E).ex := fun b z => absurd (show b ∈ ([] : List Addr) from z) (by simp)
 refine ⟨⟨e0.mod, S.kind, rfl, rfl, Nat.le_refl _, fun y z c h1 h2 => ?_, fun y hy => ?_, fun y c _ h => ?_, fun _ => hd, Around.frames_deeper e0.frames, .inr ⟨rfl, rfl⟩, fun b z => absurd z (noA b), e0.bs, e0.bsz, fun b _ _ => noA b, fun b z => absurd z (noA b), e0.zlx, e0.frf⟩,
  rfl, e0.bare, Un.kept hk, ⟨_, x.toInCall.ns, fun i y v h1 h2 h3 => ?_⟩, fun y c h => ⟨_, x.cell y c h⟩, e0.hok.fresh (Nat.le_refl _), fun y c h => ?_, fun p hp => absurd (show p ∈ ([] : List (Addr × Obj)) from hp) (by simp), e0.hok.kept hk, ?_⟩
 ·exact name_of_addr x.apart (PySem.mem_of_lookup h1) (PySem.mem_of_lookup h2)
 ·have hy : scope.names.lookup y = some .cell \/ scope.names.lookup y = some .free := hy
  rcases hy with hy | hy
  ·exact zjp hy
  ·exact absurd rfl (S.zql _ (PySem.mem_of_lookup hy))
 ·exact Nat.le_of_lt (x.above y c (PySem.mem_of_lookup h))
 ·have hi : i < vs.length := by
   unfold start at h2
   by_cases hi : i < vs.length
   ·exact hi
   ·rw [List.getElem?_append_right (by simpa using hi)] at h2
    rw [List.getElem?_replicate] at h2
    split at h2 <;> cases h2
  have ha : vs[i]? = some v := by
   unfold start at h2
   rw [List.getElem?_append_left (by simpa using hi), List.getElem?_map] at h2
   cases e : vs[i]? with
   | none => rw [e] at h2; cases h2
   | some a => rw [e] at h2; cases h2; rfl
  obtain ⟨u, hu, rv⟩ := r.get ha
  have hp : ps[i]? = some y := by
   rw [<- S.pre, List.getElem?_take_of_lt (by omega)]; exact h1
  have ndP : ps.Nodup := by rw [<- S.pre]; exact S.nd.sublist (List.take_sublist _ _)
  refine ⟨u, rv, ?_⟩
  rcases S.par y (List.mem_of_getElem? hp) with k | k
  ·exact .inl ⟨k, zim ndP hp hu k⟩
  ·obtain ⟨c, e⟩ := zjp (n := s.heap.objs.size + 1) k
   refine .inr ⟨.inl k, c, e, ?_⟩
   have q := x.cell y c e
   rw [zio ndP hp hu (by show scope.names.lookup y ≠ _; rw [k]; decide)] at q
   exact q
 ·exact e0.hok.fresh (Nat.le_of_lt (x.above y c (PySem.mem_of_lookup h)))
 ·unfold start
  show _ = N.length
  rw [List.length_append, List.length_map, List.length_replicate]
  omega
theorem zrF {CX : CXT} {P : Program} {w : World} {K : PySem.W.Frag} {mg : Str -> Option Value} {base : Heap} {k : Nat} {f : Addr} {name qual : Str} {params : Arguments} {body : List Stmt} {scope : Scope} {dV kV doc pm cdv ct oc : Value} {an od : Option Addr}
  {osl : Array (Option Value)} {N ps : List Str} {sp : Sp} (lk : K.lookup f = some ⟨oc, od, .func (PySem.W.fnOf name qual params body scope dV kV doc pm an cdv ct), osl⟩) (hcd : PySem.W.codeIn K cdv qual = true) (S : zaM N ps scope)
  (len : ∀ vs H Q E, sp vs H Q E -> vs.length = ps.length)
  (hbody : ∀ (A : Around) (outer : List Env) (s : Shared) (H : Hp) (vs : List V) (Q : VK) (E : XK), ze2 k (A.deeper (envOfC qual scope s.heap.objs.size f cdv)) -> sp vs H Q E ->
   ∃ t, PSs (zmS CX P w K mg base N qual scope f cdv A outer s H E) body t /\ t { nx := fun _ H' => Q .non H', rt := Q } (start N vs) H) :
  zkm P w K mg base CX (k + 1) f (PySem.W.fnOf name qual params body scope dV kV doc pm an cdv ct) ps sp := by
 refine ⟨len, fun A outer s H args us vs Q E hr e0 hb r hsp => ?_⟩
 have hl := len _ _ _ _ hsp
 have KX : K.In s.heap := e0.mod.kin.keeps fun b o e => (e0.bs b o e).1
 have lim : s.heap.NoLimit := e0.mod.nolimit.keeps fun b o e => (e0.bs b o e).1
 have hkind : ∀ y ∈ ps.zip us, scope.names.lookup y.1 = some .local \/ (scope.names.lookup y.1 = some .cell /\ ((cellsFrom (s.heap.objs.size + 1) scope.names []).lookup y.1).isSome = true) := fun ⟨n, v⟩ hy => by
  rcases S.par n (List.of_mem_zip hy).1 with q | q
  ·exact .inl q
  ·exact .inr ⟨q, PySem.W.cellsFrom_some _ _ _ (.inl q)⟩
 refine codeAny_call_function hr.depth (KX _ _ lk) rfl S.co S.gen rfl (PySem.W.codeRec_of KX hcd) (hb _ _ _ _ ?_)
 refine wpAny_newFunctionEnv_cells S.kind hkind fun env he s1 x => ?_
 subst he
 refine ⟨lim.keeps x.toInCall.keep, codeAny_func ?_⟩
 obtain ⟨t, ht, hq⟩ := hbody A outer s H vs Q E (hr.deeper _) hsp
 have I : Inv (zmS CX P w K mg base N qual scope f cdv A outer s H E) [] (start N vs) H s1 := zlm S hr.hd e0 hl r x
 refine wpAny_mono (ht [] s1 (start N vs) H _ I hq) (fun fl s' hs => ?_) fun e s' hs => hs
 have fin : ∀ {σ' : St} {H' : Hp} {v : V} {u : Value}, Inv (zmS CX P w K mg base N qual scope f cdv A outer s H E) [] σ' H' s' -> RelV v u -> Q v H' -> CE outer P w H s Q u s' :=
  fun {σ' H' v u} J rv q => ⟨v, H', J.os, J.bare, J.base, J.hok, rv, q⟩
 cases fl with
 | ret u =>
  obtain ⟨v, σ', H', J, rv, q⟩ := hs
  exact fin J rv q
 | next =>
  obtain ⟨σ', H', J, q⟩ := hs
  exact fin (v := V.non) (u := Value.none) J rfl q
 | brk =>
  obtain ⟨_, _, _, q⟩ := hs
  exact False.elim q
 | cont =>
  obtain ⟨_, _, _, q⟩ := hs
  exact False.elim q
end L2
namespace L2
open PySem PySem.Spec PyProof.Rows
section
variable {X : Cx} {x : Str} {p pos : Pos} {e : Expr} {es : List Expr} {t : TA} {id T : String} {r : List V -> Hp -> VK -> Prop}
def tCB (r : List V -> Hp -> VK -> Prop) (t : TA) : TE := fun σ H Q => t σ H fun vs H1 => r vs H1 Q
theorem zeF (hc : zcf X (.builtin id) r) (hg : Gl X x) (hm : X.mg x = none) (hv : bootBuiltins x = some (.builtin id)) (ha : PA X (e :: es) t) (hn : x ≠ "__name__" := by decide) (hdb : (x == ("__debug__" : Str)) = false := by decide)
  (he : starEach (e :: es) X.env = (false, eval e X.env) :: starEach es X.env := by rfl) (hpl : (backTo pos (starEach es X.env)).any (·.1) = false := by rfl) : PE X (.Call (.Name x p) (e :: es) [] pos) (tCB r t) := by
 intro pins s σ H Q I h
 refine wpAny_Call_Name_kw (zgz I hg hm hv ?_ hn hdb)
 exact PyProof.Rows.callWith_builtin1 (thn (ha pos pins s σ H _ I h) fun us s1 ⟨vs, H1, I1, r1, q1⟩ => hc pins s1 σ H1 vs us Q I1 r1 q1) he hpl
theorem zdP (hc : zcf X (.type T) r) (hg : Gl X x) (hm : X.mg x = none) (hv : bootBuiltins x = some (.type T)) (ha : PA X (e :: es) t) (hn : x ≠ "__name__" := by decide) (hdb : (x == ("__debug__" : Str)) = false := by decide)
  (he : starEach (e :: es) X.env = (false, eval e X.env) :: starEach es X.env := by rfl) (hpl : (backTo pos (starEach es X.env)).any (·.1) = false := by rfl) : PE X (.Call (.Name x p) (e :: es) [] pos) (tCB r t) := by
 intro pins s σ H Q I h
 refine wpAny_Call_Name_kw (zgz I hg hm hv ?_ hn hdb)
 exact PyProof.Rows.callWith_type1 (thn (ha pos pins s σ H _ I h) fun us s1 ⟨vs, H1, I1, r1, q1⟩ => hc pins s1 σ H1 vs us Q I1 r1 q1) he hpl
end
end L2
namespace HT
open PySem PyProof.Rows
noncomputable def lexLt : List Int -> List Int -> Bool
 | [], [] => false
 | [], _ :: _ => true
 | _ :: _, [] => false
 | x :: xs, y :: ys => if x = y then lexLt xs ys else decide (x < y)
theorem zdi (x y : Int) (xs ys : List Int) : lexLt (x :: xs) (y :: ys) = if x = y then lexLt xs ys else decide (x < y) := rfl
theorem zhb : lexLt [] [] = false := rfl
theorem zgk (y : Int) (ys : List Int) : lexLt [] (y :: ys) = true := rfl
theorem zgl (x : Int) (xs : List Int) : lexLt (x :: xs) [] = false := rfl
theorem zmQ (A : Around) (s : Shared) (a : Int) (t : Tok) (c : Int) (u : Tok) : ∃ e, SeqAt.EqAt A s (.int a t) (.int c u) e /\ (e = true ↔ a = c) :=
 ⟨(a == c), SeqAt.EqAt.int_int a t c u, by simp⟩
theorem zmj (A : Around) (s : Shared) (a : Int) (t : Tok) (c : Int) (u : Tok) (prog : Program) (w : World) (E : Value -> Shared -> Prop) (Q : Value -> Shared -> Prop) (h : Q (.bool (decide (a < c))) s) :
  wpAny (model prog w) A (richCompare .Lt (.int a t) (.int c u)) Q E s :=
 (PyProof.Rows.lt_int h : wpAny (model prog w) A (compareOp .Lt (.int a t) (.int c u)) Q E s)
section
open PySem.SeqAt
open PySem.AutoSeq1 (wpAny_loadPart')
open PySem.MeetsSeq PySem.MeetsSeq2 PySem.MeetsSeq3
theorem zgJ (l b : Addr) (items items2 : Array Value) (n n2 : Nat) (dd dd2 : Option Addr) (sl sl2 : Array (Option Value)) (ns ms : List Int) (hi : IntsAre items.toList ns) (hj : IntsAre items2.toList ms) :
  Meets (Builtin.«tuple.__lt__» ⟨[.ref l, .ref b], []⟩)
   (fun _ R s => s.heap.get? l = some { cls := .type "tuple", dict := dd, data := .seq items n, slots := sl } /\ s.heap.get? b = some { cls := .type "tuple", dict := dd2, data := .seq items2 n2, slots := sl2 } /\
    R (.ok (.ret (.bool (lexLt ns ms)))) s) :=
 .of_wp fun prog w A R s h => by
  obtain ⟨hp, g, d, tk, os⟩ := s; obtain ⟨hl, hb, h⟩ := h
  have f2 := AutoSeq1.sub_tuple_tuple
  have z1 : items.size = ns.length := by rw [<- hi.length]; simp
  have z2 : items2.size = ms.length := by rw [<- hj.length]; simp
  wp_walk using wpAny_loadPart' hl, wpAny_loadPart' hb, wpAny_forIn_list _ (fun rest b s' => b.1 = none /\ s' = ⟨hp, g, d, tk, os⟩ /\ ∃ (vs ws : List Value) (ns' ms' : List Int), rest = vs.zip ws /\
   IntsAre vs ns' /\ IntsAre ws ms' /\ ns'.length + items2.size = ms'.length + items.size /\ R (.ok (.ret (.bool (lexLt ns' ms')))) ⟨hp, g, d, tk, os⟩) _
  case turn =>
   rintro ⟨y, x⟩ rest b s' ⟨hb', rfl, vs, ws, ns', ms', hz, hvi, hwi, hlen, hR⟩
   cases hvi with
   | nil => rw [List.zip_nil_left] at hz; cases hz
   | cons a t hvi' =>
    cases hwi with
    | nil => rw [List.zip_nil_right] at hz; cases hz
    | cons c u hwi' =>
     rw [List.zip_cons_cons] at hz
     injection hz with hyx hrest
     injection hyx with hy hx
     subst hy hx
     rw [zdi] at hR
     simp only [List.length_cons] at hlen
     obtain ⟨e, he, hiff⟩ := zmQ A.in1 ⟨hp, g, d, tk, os⟩ a t c u
     refine wpAny_bind (he prog w _ _ ?_)
     cases e with
     | true =>
      rw [if_pos (hiff.mp rfl)] at hR
      wp_walk
      exact ⟨rfl, rfl, _, _, _, _, hrest, hvi', hwi', by omega, hR⟩
     | false =>
      rw [if_neg (fun q => absurd (hiff.mpr q) Bool.false_ne_true)] at hR
      have hri := zmj A.in1 ⟨hp, g, d, tk, os⟩ a t c u prog w
      wp_walk using hri
      exact ⟨_, rfl, by simpa using hR⟩
  case fin =>
   rintro ⟨b1, b2⟩ s' ⟨hb', rfl, vs, ws, ns', ms', hz, hvi, hwi, hlen, hR⟩
   simp only at hb'
   subst hb'
   have hv : lexLt ns' ms' = decide (items.size < items2.size) := by
    cases hvi with
    | nil =>
     cases hwi with
     | nil =>
      simp only [List.length_nil] at hlen
      rw [zhb]
      exact (decide_eq_false (by omega)).symm
     | cons c u hw =>
      simp only [List.length_nil, List.length_cons] at hlen
      rw [zgk]
      exact (decide_eq_true (by omega)).symm
    | cons a t hv =>
     cases hwi with
     | nil =>
      simp only [List.length_nil, List.length_cons] at hlen
      rw [zgl]
      exact (decide_eq_false (by omega)).symm
     | cons c u hw =>
      rw [List.zip_cons_cons] at hz
      cases hz
   rw [hv] at hR
   wp_walk
   exact ⟨_, rfl, by simpa [Builtin.Tuple.tupleCompareSizes] using hR⟩
  case h =>
   exact ⟨rfl, rfl, items.toList, items2.toList, ns, ms, rfl, hi, hj, by omega, h⟩
end
section
variable {prog : Program} {w : World} {A : Around} {E : Value -> Shared -> Prop} {s : Shared}
theorem zjW {l b : Addr} {items items2 : Array Value} {ns ms : List Int} {Q : Value -> Shared -> Prop} (hl : IsTup s.heap l items) (hb : IsTup s.heap b items2) (hi : IntsAre items.toList ns) (hj : IntsAre items2.toList ms)
  (hu : A.units < cLine) (h : Q (.bool (lexLt ns ms)) s) : wpAny (model prog w) A (compareOp .Lt (.ref l) (.ref b)) Q E s := by
 obtain ⟨⟨cls, dd, data, sl⟩, ho, hc, n, hd⟩ := id hl
 obtain ⟨⟨cls2, dd2, data2, sl2⟩, ho2, hc2, n2, hd2⟩ := id hb
 simp only at hc hd hc2 hd2
 subst hc hd hc2 hd2
 exact richCompare_meets_room (op := .Lt) ⟨_, ho, rfl⟩ ⟨_, ho2, rfl⟩ PySem.F.slot_tuple_lt PySem.F.entry_tuple_lt (PySem.F.args_tuple_lt_2 _ _) (zgJ l b items items2 n n2 dd dd2 sl sl2 ns ms hi hj)
  ⟨ho, ho2, show Value.bool (lexLt ns ms) ≠ Value.notImplemented /\ Q (.bool (lexLt ns ms)) s from ⟨(fun x => nomatch x), h⟩⟩ hu
theorem zoQ {t b : Addr} {vs ws : List Value} {Q : Value -> Shared -> Prop} (ht : IsTup s.heap t vs.toArray) (hb : IsTup s.heap b ws.toArray) (hv : vs ≠ [])
  (h1 : ws = [] -> Q (.ref t) s) (h2 : ws ≠ [] -> Q (.ref s.heap.objs.size) { s with heap := s.heap.push { cls := .type "tuple", data := .seq (vs ++ ws).toArray } })
  (hsz : vs.length + ws.length <= sizeLine) : wpAny (model prog w) A (binaryOp .Add (.ref t) (.ref b)) Q E s := by
 obtain ⟨⟨cls, dd, data, sl⟩, ho, hc, n, hd⟩ := id ht
 obtain ⟨⟨cls2, dd2, data2, sl2⟩, ho2, hc2, n2, hd2⟩ := id hb
 simp only at hc hd hc2 hd2
 subst hc hd hc2 hd2
 have e : vs.toArray ++ ws.toArray = (vs ++ ws).toArray := by simp
 by_cases hw : ws = []
 ·exact concat_meets ⟨_, ho, rfl⟩ ⟨_, ho2, rfl⟩ noFill_tuple_add seq_tuple_add PySem.F.slot_tuple_add PySem.F.entry_tuple_add (PySem.F.args_tuple_add_2 _ _)
   (tuple_addW1 t b vs.toArray ws.toArray n n2 dd dd2 sl sl2 (by simpa using hv) (by simp [hw])) ⟨ho, ho2, h1 hw⟩
 ·refine concat_meets ⟨_, ho, rfl⟩ ⟨_, ho2, rfl⟩ noFill_tuple_add seq_tuple_add PySem.F.slot_tuple_add PySem.F.entry_tuple_add (PySem.F.args_tuple_add_2 _ _)
   (tuple_addW2 t b vs.toArray ws.toArray n n2 dd dd2 sl sl2 (by simpa using hv) (by simpa using hw) (by rw [List.size_toArray, List.size_toArray]; exact hsz)) ⟨ho, ho2, ?_⟩
  rw [e]
  exact h2 hw
noncomputable def sIx (n d : Nat) : Option Int -> Nat
 | none => d
 | some v => if v < 0 then (v + (n : Int)).toNat else min v.toNat n
theorem zpp (n d : Nat) (hd : d <= n) (o : Option Int) : sIx n d o <= n := by
 cases o with
 | none => exact hd
 | some v =>
  show (if v < 0 then (v + (n : Int)).toNat else min v.toNat n) <= n
  by_cases hv : v < 0
  ·rw [if_pos hv]; omega
  ·rw [if_neg hv]; exact Nat.min_le_right _ _
theorem zlI (v : Int) (n d : Nat) : (if v < 0 then max (v + (n : Int)) 0 else min v (n : Int)) = ((sIx n d (some v) : Nat) : Int) := by
 show (if v < 0 then max (v + (n : Int)) 0 else min v (n : Int)) = (((if v < 0 then (v + (n : Int)).toNat else min v.toNat n) : Nat) : Int)
 by_cases hv : v < 0
 ·simp only [if_pos hv]; omega
 ·simp only [if_neg hv]; omega
theorem zkd (lo hi : Option Int) (n : Nat) : Builtin.Slice.sliceAdjust lo hi 1 (n : Int) = (((sIx n 0 lo : Nat) : Int), ((sIx n n hi : Nat) : Int)) := by
 have h1 : ¬ ((1 : Int) < 0) := by omega
 unfold Builtin.Slice.sliceAdjust
 simp only [h1, if_false]
 refine Prod.ext ?_ ?_
 ·cases lo with
  | none => rfl
  | some v => exact zlI v n 0
 ·cases hi with
  | none => rfl
  | some v => exact zlI v n n
theorem zjM (i j : Nat) : Builtin.Slice.slicePlaces (i : Int) (j : Int) 1 = j - i := by
 unfold Builtin.Slice.slicePlaces
 have h1 : (1 : Int) > 0 := by omega
 simp only [h1, if_true, Int.ediv_one]
 split <;> omega
theorem zgw {v : Value} {o : Option Int} {Q : Option Int -> Shared -> Prop} (p : IsPart v o) (h : Q o s) : wpAny (model prog w) A (Builtin.Slice.slicePartIndex v) Q E s := by
 cases p with
 | none => exact slicePart_none h
 | int i t => exact slicePart_int h
theorem zdA {sl : Addr} {vl vu : Value} {lo hi : Option Int} {n : Nat} {Q : Int × Int × Nat -> Shared -> Prop} (hs : s.heap.IsSliceOf sl vl vu .none) (pl : IsPart vl lo) (pu : IsPart vu hi)
  (h : Q (((sIx n 0 lo : Nat) : Int), 1, sIx n n hi - sIx n 0 lo) s) : wpAny (model prog w) A (Builtin.Slice.sliceApplied (.ref sl) (pure (n : Int))) Q E s := by
 obtain ⟨os, hos, hcs, hds⟩ := id hs
 unfold Builtin.Slice.sliceApplied Builtin.Slice.sliceFields
 refine wpAny_bind (wpAny_bind (wpAny_field hos hds (x := vl) rfl (wpAny_bind (wpAny_field hos hds (x := vu) rfl (wpAny_bind (wpAny_field hos hds (x := .none) rfl (wpAny_pure ?_)))))))
 refine wpAny_bind (slicePart_none ?_)
 show wpAny _ _ (if ((1 : Int) == 0) = true then _ else _) _ _ s
 rw [if_neg (by decide)]
 refine wpAny_bind (zgw pl (wpAny_bind (zgw pu (wpAny_bind (wpAny_pure ?_)))))
 show wpAny _ _ (match Builtin.Slice.sliceAdjust lo hi 1 (n : Int) with | (lo, hi) => pure (lo, (1 : Int), Builtin.Slice.slicePlaces lo hi 1)) _ _ s
 rw [zkd lo hi n]
 show wpAny _ _ (pure (((sIx n 0 lo : Nat) : Int), (1 : Int), Builtin.Slice.slicePlaces ((sIx n 0 lo : Nat) : Int) ((sIx n n hi : Nat) : Int) 1)) _ _ s
 rw [zjM]
 exact wpAny_pure h
theorem zmo (xs : Array Value) (i k : Nat) : ((List.range k).filterMap fun (m : Nat) => xs[((i : Int) + (m : Int) * 1).toNat]?).toArray = ((xs.toList.drop i).take k).toArray := by
 have e : (fun (m : Nat) => xs[((i : Int) + (m : Int) * 1).toNat]?) = fun m => xs[i + m]? := by
  funext m
  have : ((i : Int) + (m : Int) * 1).toNat = i + m := by omega
  rw [this]
 rw [e]
 have := pick_run xs i k
 rw [List.filterMap_map] at this
 have e2 : ((fun x => xs[x]?) ∘ fun x => i + x) = fun m => xs[i + m]? := rfl
 rw [e2] at this
 rw [this]
theorem zfj {t sl : Addr} {items : Array Value} {vl vu : Value} {lo hi : Option Int} {Q : Value -> Shared -> Prop} (ht : IsTup s.heap t items) (hs : s.heap.IsSliceOf sl vl vu .none) (pl : IsPart vl lo) (pu : IsPart vu hi)
  (hw : ¬ (sIx items.size 0 lo = 0 /\ sIx items.size items.size hi = items.size))
  (h : Q (.ref s.heap.objs.size) { s with heap := s.heap.push { cls := .type "tuple", data := .seq ((items.toList.drop (sIx items.size 0 lo)).take (sIx items.size items.size hi - sIx items.size 0 lo)).toArray } })
  (hsz : items.size <= sizeLine) : wpAny (model prog w) A (getItem (.ref t) (.ref sl)) Q E s := by
 have htake : sizeOk (.seq ((items.toList.drop (sIx items.size 0 lo)).take (sIx items.size items.size hi - sIx items.size 0 lo)).toArray) := by
  show ((items.toList.drop (sIx items.size 0 lo)).take (sIx items.size items.size hi - sIx items.size 0 lo)).toArray.size <= sizeLine
  rw [List.size_toArray, List.length_take, List.length_drop, Array.length_toList]
  omega
 have hj : sIx items.size items.size hi <= items.size := zpp _ _ (Nat.le_refl _) hi
 obtain ⟨os, hos, hcs, hds⟩ := id hs
 have hTs : s.TypeIs (.ref sl) "slice" := ⟨os, hos, hcs⟩
 unfold getItem
 try with_reducible refine wpAny_holding ?_
 first | refine wpAny_bind (wpAny_pure ?_) | skip
 refine wpAny_bind (wpAny_sequenceKey ht.typeIs (by decide) ?_)
 refine wpAny_bind (wpAny_callSpecial?_slot (name := Str.ofString "__getitem__") ht.typeIs PyProof.Rows.slot_tuple_getitem
  (wpAny_call_entry PyProof.Rows.slot_tuple_getitem ht.typeIs entry_tuple_getitem ?_ (args_tuple_getitem _ _)))
 show wpAny _ _ (Builtin.Tuple.tupleItemsOf (.ref t) >>= _) _ _ s
 refine wpAny_bind (tupleItemsOf_ ht ?_)
 refine wpAny_bind (wpAny_typeOf hTs ?_)
 rw [if_pos (by decide)]
 refine wpAny_bind (zdA hs pl pu ?_)
 have hno : ¬ ((((sIx items.size 0 lo : Nat) : Int) == 0 && (1 : Int) == 1 && (sIx items.size items.size hi - sIx items.size 0 lo) == items.size) = true) := by
  intro q
  rw [Bool.and_eq_true, Bool.and_eq_true] at q
  have q1 : ((sIx items.size 0 lo : Nat) : Int) = 0 := eq_of_beq q.1.1
  have q2 : sIx items.size items.size hi - sIx items.size 0 lo = items.size := eq_of_beq q.2
  exact hw ⟨by omega, by omega⟩
 show wpAny _ _ (if (((sIx items.size 0 lo : Nat) : Int) == 0 && (1 : Int) == 1 && (sIx items.size items.size hi - sIx items.size 0 lo) == items.size) = true then _ else _) _ _ s
 rw [if_neg hno, zmo]
 first
  | exact wpAny_bind (m := Builtin.Tuple.tupleExact _) (wpAny_newObj_type (wpAny_pure ⟨_, rfl, wpAny_pure h⟩) htake)
  | exact wpAny_bind (m := Builtin.Tuple.tupleExact _) (wpAny_newObj_type (wpAny_bind (wpAny_pure (wpAny_pure ⟨_, rfl, wpAny_pure h⟩))) htake)
  | exact wpAny_bind (wpAny_bind (m := Builtin.Tuple.tupleExact _) (wpAny_newObj_type (wpAny_pure (wpAny_pure ⟨_, rfl, wpAny_pure h⟩)) htake))
  | exact wpAny_bind (wpAny_bind (m := Builtin.Tuple.tupleExact _) (wpAny_newObj_type (wpAny_pure ⟨_, rfl, wpAny_pure h⟩) htake))
end
end HT
namespace L2
open PySem PySem.Spec PyProof.Rows
abbrev TO := St -> Hp -> (Option Int -> Hp -> Prop) -> Prop
def PO (X : Cx) (e : Option Expr) (t : TO) : Prop :=
 ∀ (pins : List (Addr × Obj)) (s : Shared) (σ : St) (H : Hp) (Q : Option Int -> Hp -> Prop), Inv X pins σ H s -> t σ H Q ->
  wpAny (model X.prog X.w) X.A (evalPart e X.env) (fun u s' => ∃ o H', Inv X pins σ H' s' /\ IsPart u o /\ Q o H') X.xe s
noncomputable def znQ : TO := fun _ H Q => Q none H
noncomputable def zq8 (t : TE) : TO := fun σ H Q => t σ H fun x H1 => ∃ i, x = .int i /\ Q (some i) H1
theorem intsAre_of {ns : List Int} : ∀ {us : List Value}, Vals (ns.map V.int) us -> IntsAre us ns := by
 induction ns with
 | nil => intro us r; rw [List.map_nil] at r; cases r; exact .nil
 | cons n ns ih =>
  intro us r
  rw [List.map_cons] at r
  cases r with
  | cons r1 r2 =>
   obtain ⟨t, e⟩ := r1
   subst e
   exact .cons n t (ih r2)
section
variable {X : Cx} {e : Expr} {te : TE} {lo hi : Option Expr} {tl th : TO} {pos p2 : Pos}
theorem zn4 : PO X none znQ := by
 intro pins s σ H Q I h
 rw [evalPart_none]
 exact wpAny_pure ⟨none, H, I, .none, h⟩
theorem zn3 (h : PE X e te) : PO X (some e) (zq8 te) := by
 intro pins s σ H Q I hw
 rw [evalPart_some]
 refine thn (h pins s σ H _ I hw) fun u s1 ⟨x, H1, I1, r1, q1⟩ => ?_
 obtain ⟨i, rfl, q⟩ := q1
 obtain ⟨t, rfl⟩ := r1
 exact ⟨some i, H1, I1, .int i t, q⟩
def SlR (X : Cx) (r : V -> Option Int -> Option Int -> Hp -> VK -> Prop) : Prop :=
 ∀ (pins : List (Addr × Obj)) (s : Shared) (σ : St) (H : Hp) (x : V) (v vl vu : Value) (lo hi : Option Int) (sl : Addr) (Q : VK), Inv X pins σ H s -> RelV x v -> s.heap.IsSliceOf sl vl vu .none -> IsPart vl lo -> IsPart vu hi -> r x lo hi H Q ->
  ∃ T id, typeLookup (.type T) "__getitem__" = pure (some (.builtin id)) /\ s.TypeIs v T /\ wpAny (model X.prog X.w) X.A (getItem v (.ref sl)) (EP X pins σ Q) X.xe s
theorem SlR.or {r r' : V -> Option Int -> Option Int -> Hp -> VK -> Prop} (h : SlR X r) (h' : SlR X r') : SlR X (fun x lo hi H Q => r x lo hi H Q \/ r' x lo hi H Q) := by
 intro pins s σ H x v vl vu lo hi sl Q I rx hs pl pu q
 rcases q with q | q
 ·exact h pins s σ H x v vl vu lo hi sl Q I rx hs pl pu q
 ·exact h' pins s σ H x v vl vu lo hi sl Q I rx hs pl pu q
def tSl (r : V -> Option Int -> Option Int -> Hp -> VK -> Prop) (te : TE) (tl th : TO) : TE := fun σ H Q => te σ H fun x H1 => tl σ H1 fun l H2 => th σ H2 fun u H3 => r x l u H3 Q
theorem zmq {r : V -> Option Int -> Option Int -> Hp -> VK -> Prop} (hr : SlR X r) (he : PE X e te) (hl : PO X lo tl) (hu : PO X hi th) : PE X (.Subscript e (.Slice lo hi none p2) pos) (tSl r te tl th) := by
 intro pins s σ H Q I h
 refine Subscript_ (thn (he pins s σ H _ I h) fun v s1 ⟨x, H1, I1, r1, q1⟩ => ?_)
 refine wpAny_Slice (thn (hl pins s1 σ H1 _ I1 q1) fun vl s2 ⟨l, H2, I2, pl, q2⟩ => thn (hu pins s2 σ H2 _ I2 q2) fun vu s3 ⟨u, H3, I3, pu, q3⟩ => ?_)
 rw [evalPart_none]
 refine wpAny_pure ?_
 have I4 : Inv X pins σ H3 { s3 with heap := s3.heap.push { cls := .type "slice", data := .fields #[vl, vu, .none] } } := I3.kept (t' := s3.toks) fun b ob q => Heap.get?_push_of_some _ q
 obtain ⟨T, id, hT, ht, hg⟩ := hr pins { s3 with heap := s3.heap.push { cls := .type "slice", data := .fields #[vl, vu, .none] } } σ H3 x v vl vu l u s3.heap.objs.size Q I4 r1 (Heap.IsSliceOf.new ..) pl pu q3
 show wpAny (model X.prog X.w) X.A (subscriptTail e (.Slice lo hi none p2) v (.ref s3.heap.objs.size)) (EP X pins σ Q) X.xe { s3 with heap := s3.heap.push { cls := .type "slice", data := .fields #[vl, vu, .none] } }
 exact tail_any (ops := [.ref s3.heap.objs.size, v]) ht hT hg (by with_unfolding_all rfl)
noncomputable def zl4 (xs : List V) (lo hi : Option Int) : List V := (xs.drop (HT.sIx xs.length 0 lo)).take (HT.sIx xs.length xs.length hi - HT.sIx xs.length 0 lo)
theorem zgb (xs : List V) (lo hi : Option Int) : (zl4 xs lo hi).length <= xs.length := by
 unfold zl4
 rw [List.length_take, List.length_drop]
 omega
def zr3 (K : PySem.W.Frag) : V -> Option Int -> Option Int -> Hp -> VK -> Prop := fun x lo hi H Q => ∃ a xs, x = .ref a /\ SqT K H a xs /\
 ¬ (HT.sIx xs.length 0 lo = 0 /\ HT.sIx xs.length xs.length hi = xs.length) /\ ∀ p, H p = none -> Q (.ref p) (upd H p (.tup (zl4 xs lo hi)))
theorem zpj : SlR X (zr3 X.K) := by
 intro pins s σ H x v vl vu lo hi sl Q I rx hs pl pu h
 obtain ⟨a, xs, rfl, hx, hw, q⟩ := h
 cases rx
 obtain ⟨its, r, ht, hz⟩ := I.tuple hx
 have hlen : its.toArray.size = xs.length := by rw [List.size_toArray]; exact r.length.symm
 refine ⟨"tuple", _, PyProof.Rows.slot_tuple_getitem.lookup, ht.typeIs, ?_⟩
 refine HT.zfj ht hs pl pu (by rw [hlen]; exact hw) ?_ (by rw [hlen]; exact hz)
 rw [hlen]
 refine ⟨.ref s.heap.objs.size, _, I.laid (t' := s.toks) (o := .tup (zl4 xs lo hi)) (fun b ob q => Heap.get?_push_of_some _ q) (Nat.le_refl _) ?_, rfl, q _ (I.hok.fresh (Nat.le_refl _))⟩
 exact ⟨Nat.le_trans (zgb xs lo hi) hz, _, (r.drop (HT.sIx xs.length 0 lo)).take (HT.sIx xs.length xs.length hi - HT.sIx xs.length 0 lo), IsTup.new _ _⟩
def zrg (K : PySem.W.Frag) : R2 := fun x y H Q => ∃ a b ns ms, x = .ref a /\ y = .ref b /\ SqT K H a (ns.map V.int) /\ SqT K H b (ms.map V.int) /\ Q (.bl (HT.lexLt ns ms)) H
theorem zp7 (hu : X.A.units < cLine) : OpR X (compareOp .Lt) (zrg X.K) := by
 intro pins s σ H x y v u Q I rx ry h
 obtain ⟨a, b, ns, ms, rfl, rfl, ha, hb, q⟩ := h
 cases rx
 cases ry
 obtain ⟨its, r1, p1, _⟩ := I.tuple ha
 obtain ⟨its2, r2, p2, _⟩ := I.tuple hb
 have i1 : IntsAre its.toArray.toList ns := intsAre_of r1
 have i2 : IntsAre its2.toArray.toList ms := intsAre_of r2
 exact HT.zjW p1 p2 i1 i2 hu ⟨.bl (HT.lexLt ns ms), H, I, rfl, q⟩
def zpv (K : PySem.W.Frag) : R2 := fun x y H Q => ∃ a b xs ys, x = .ref a /\ y = .ref b /\ SqT K H a xs /\ SqT K H b ys /\ xs ≠ [] /\ xs.length + ys.length <= sizeLine /\
 (ys = [] -> Q (.ref a) H) /\ (ys ≠ [] -> ∀ p, H p = none -> Q (.ref p) (upd H p (.tup (xs ++ ys))))
theorem Vals.zg5 {xs : List V} {us : List Value} (r : Vals xs us) : us = [] ↔ xs = [] := by
 cases r with
 | nil => simp
 | cons _ _ => simp
theorem zoo : OpR X (binaryOp .Add) (zpv X.K) := by
 intro pins s σ H x y v u Q I rx ry h
 obtain ⟨a, b, xs, ys, rfl, rfl, ha, hb, hx, hz, q1, q2⟩ := h
 cases rx
 cases ry
 obtain ⟨its, r1, p1, _⟩ := I.tuple ha
 obtain ⟨its2, r2, p2, _⟩ := I.tuple hb
 refine HT.zoQ p1 p2 (fun z => hx (r1.zg5.mp z)) (fun z => ⟨.ref a, H, I, rfl, q1 (r2.zg5.mp z)⟩) (fun z => ?_) (by rw [<- r1.length, <- r2.length]; exact hz)
 refine ⟨.ref s.heap.objs.size, _, I.laid (t' := s.toks) (o := .tup (xs ++ ys)) (fun b ob q => Heap.get?_push_of_some _ q) (Nat.le_refl _) ?_, rfl, q2 (fun w => z (r2.zg5.mpr w)) _ (I.hok.fresh (Nat.le_refl _))⟩
 exact ⟨by rw [List.length_append]; exact hz, _, r1.append r2, IsTup.new _ _⟩
end
end L2
namespace L2
open PySem PySem.Spec PyProof.Rows
noncomputable def ixN (n : Nat) (i : Int) : Option Nat := if 0 <= i then (if i < n then some i.toNat else none) else if -(n : Int) <= i then some (i + n).toNat else none
noncomputable def atI {α : Type} (xs : List α) (i : Int) : Option α := (ixN xs.length i).bind fun j => xs[j]?
theorem zlj {n : Nat} {i : Int} {j : Nat} (h : ixN n i = some j) : seqIndex? i n = some j /\ j < n /\ -(n : Int) <= i /\ i < n := by
 unfold ixN at h
 by_cases h0 : 0 <= i
 ·rw [if_pos h0] at h
  by_cases h1 : i < n
  ·rw [if_pos h1] at h
   have e : i.toNat = j := Option.some.inj h
   exact ⟨by rw [seqIndex_of h0 h1, e], by omega, by omega, h1⟩
  ·rw [if_neg h1] at h; cases h
 ·rw [if_neg h0] at h
  by_cases h1 : -(n : Int) <= i
  ·rw [if_pos h1] at h
   have e : (i + n).toNat = j := Option.some.inj h
   exact ⟨by rw [seqIndex_neg (by omega) h1, e], by omega, h1, by omega⟩
  ·rw [if_neg h1] at h; cases h
theorem ziW {α : Type} {xs : List α} {i : Int} {v : α} (h : atI xs i = some v) : ∃ j, seqIndex? i xs.length = some j /\ xs[j]? = some v /\ j < xs.length /\ -(xs.length : Int) <= i /\ i < xs.length := by
 unfold atI at h
 cases e : ixN xs.length i with
 | none => rw [e] at h; cases h
 | some j =>
  rw [e] at h
  obtain ⟨h1, h2, h3, h4⟩ := zlj e
  exact ⟨j, h1, h, h2, h3, h4⟩
theorem zmY {α : Type} (xs : List α) (v : α) : atI (xs ++ [v]) (-1) = some v := by
 have hl : (xs ++ [v]).length = xs.length + 1 := by simp
 have e : ixN (xs ++ [v]).length (-1) = some xs.length := by
  unfold ixN
  rw [hl, if_neg (by decide), if_pos (by omega)]
  congr 1
  omega
 unfold atI
 rw [e]
 show (xs ++ [v])[xs.length]? = some v
 simp
def zlU (b : Expr) : Prop := ∀ o i, subscripted b false o i = operate [o, i] (getItem o i)
def IxR (X : Cx) (r : R2) : Prop :=
 ∀ (value slice : Expr) (pins : List (Addr × Obj)) (s : Shared) (σ : St) (H : Hp) (x y : V) (v u : Value) (Q : VK), Inv X pins σ H s -> RelV x v -> RelV y u -> r x y H Q ->
  subscripted slice false v u = operate [v, u] (getItem v u) -> wpAny (model X.prog X.w) X.A (subscriptTail value slice v u) (EP X pins σ Q) X.xe s
def MtR (X : Cx) (id : String) (r : V -> List V -> Hp -> VK -> Prop) : Prop :=
 ∀ (pins : List (Addr × Obj)) (s : Shared) (σ : St) (H : Hp) (x : V) (xs : List V) (v : Value) (us : List Value) (Q : VK), Inv X pins σ H s -> RelV x v -> Vals xs us -> r x xs H Q ->
  wpAny (model X.prog X.w) X.A (call (.builtin id) (v :: us)) (EP X pins σ Q) X.xe s
section
variable {X : Cx} {a b : Expr} {ta tb : TE} {pos : Pos}
theorem IxR.or {r r' : R2} (h : IxR X r) (h' : IxR X r') : IxR X (fun x y H Q => r x y H Q \/ r' x y H Q) := by
 intro value slice pins s σ H x y v u Q I rx ry q hs
 rcases q with q | q
 ·exact h value slice pins s σ H x y v u Q I rx ry q hs
 ·exact h' value slice pins s σ H x y v u Q I rx ry q hs
theorem zrn {r : R2} (hr : IxR X r) (ha : PE X a ta) (hb : PE X b tb) (hs : zlU b) : PE X (.Subscript a b pos) (tOp r ta tb) := by
 intro pins s σ H Q I h
 exact Subscript_ (zrN ha hb I h fun v u s2 x y H2 I2 rx ry q => hr a b pins s2 σ H2 x y v u Q I2 rx ry q (hs _ _))
def zr7 (K : PySem.W.Frag) : R2 := fun x y H Q => ∃ p xs i v, x = .ref p /\ y = .int i /\ SqL K H p xs /\ atI xs i = some v /\ Q v H
def zr5 (K : PySem.W.Frag) : R2 := fun x y H Q => ∃ p xs i v, x = .ref p /\ y = .int i /\ SqT K H p xs /\ atI xs i = some v /\ Q v H
def zr6 : R2 := fun x y H Q => ∃ z i c, x = .str z /\ y = .int i /\ z.length <= sizeLine /\ atI z.cps.toList i = some c /\ Q (.str ⟨#[c]⟩) H
theorem zoA : IxR X (zr7 X.K) := by
 intro value slice pins s σ H x y v u Q I rx ry h hs
 obtain ⟨p, xs, i, z, rfl, rfl, hq, he, q⟩ := h
 cases rx
 obtain ⟨t, rfl⟩ := ry
 obtain ⟨its, r, pl, hz⟩ := I.list hq
 obtain ⟨j, h1, h2, h3, h4, h5⟩ := ziW he
 obtain ⟨w, ew, rw'⟩ := r.get h2
 have hl := r.length
 have hn := zf2
 have fin : EP X pins σ Q w s := ⟨z, H, I, rw', q⟩
 by_cases h0 : 0 <= i
 ·have hj : i.toNat = j := by
   rw [seqIndex_of h0 h5] at h1
   exact Option.some.inj h1
  exact item_listR pl.isList h0 (by omega) (by rw [hj]; simpa using ew) fin hs
 ·have hj : (i + (its.toArray.size : Int)).toNat = j := by
   rw [seqIndex_neg (by omega) h4] at h1
   rw [List.size_toArray, <- hl]
   exact Option.some.inj h1
  exact subscriptTail_builtinR (x := w) pl.isList.typeIs slot_list_getitem.lookup
   (wpAny_getItem_list_neg (Q := fun r s' => r = w /\ EP X pins σ Q r s') pl.isList (by omega) (by rw [List.size_toArray] <;> omega) (by omega) (by rw [hj]; simpa using ew) ⟨rfl, fin⟩) hs
theorem zqy : IxR X (zr5 X.K) := by
 intro value slice pins s σ H x y v u Q I rx ry h hs
 obtain ⟨p, xs, i, z, rfl, rfl, hq, he, q⟩ := h
 cases rx
 obtain ⟨t, rfl⟩ := ry
 obtain ⟨its, r, pl, hz⟩ := I.tuple hq
 obtain ⟨j, h1, h2, h3, h4, h5⟩ := ziW he
 obtain ⟨w, ew, rw'⟩ := r.get h2
 have hl := r.length
 have hn := zf2
 have fin : EP X pins σ Q w s := ⟨z, H, I, rw', q⟩
 exact subscriptTail_builtinR (x := w) pl.typeIs slot_tuple_getitem.lookup
  (getItem_tuple (j := j) (Q := fun r s' => r = w /\ EP X pins σ Q r s') pl (by omega) (by omega) (by rw [List.size_toArray, <- hl]; exact h1) (by simpa using ew) ⟨rfl, fin⟩) hs
theorem zqz : IxR X zr6 := by
 intro value slice pins s σ H x y v u Q I rx ry h hs
 obtain ⟨z, i, c, rfl, rfl, hz, he, q⟩ := h
 obtain ⟨t, rfl⟩ := rx
 obtain ⟨t', rfl⟩ := ry
 obtain ⟨j, h1, h2, h3, h4, h5⟩ := ziW he
 have hl : z.cps.toList.length = z.length := by simp [Str.length]
 rw [hl] at h1 h4 h5
 have hn := zf2
 exact tail_any (typeIs_str s z t) slot_str_getitem.lookup (getItem_str (c := c) (by
  have e1 : decide (i < -(2 ^ 63 : Int)) = false := decide_eq_false (by omega)
  have e2 : decide (i ≥ 2 ^ 63) = false := decide_eq_false (by omega)
  rw [e1, e2, Bool.or_false]) (by rw [h1]; simpa using h2) ⟨.str ⟨#[c]⟩, H, I.tok _, ⟨_, rfl⟩, q⟩) hs
def rIx (K : PySem.W.Frag) : R2 := fun x y H Q => zr7 K x y H Q \/ zr5 K x y H Q \/ zr6 x y H Q
theorem zqA : IxR X (rIx X.K) := zoA.or (zqy.or zqz)
theorem zjV (its : List Value) (n j : Nat) (u : Value) : Obj.mapSeq (·.setIfInBounds j u) { cls := .type "list", data := .seq its.toArray n } = { cls := .type "list", data := .seq (its.set j u).toArray n } := by
 simp [Obj.mapSeq]
theorem Inv.lst {pins : List (Addr × Obj)} {σ : St} {H : Hp} {s : Shared} {p : Addr} {xs : List V} (I : Inv X pins σ H s) (h : H p = some (.lst xs)) :
  ∃ (its : List Value) (n : Nat), Vals xs its /\ s.heap.get? p = some { cls := .type "list", data := .seq its.toArray n } /\ xs.length <= sizeLine := by
 obtain ⟨z, its, n, r, e⟩ := I.hok p _ h
 exact ⟨its, n, r, e, z⟩
theorem Inv.zqq {pins : List (Addr × Obj)} {σ : St} {H : Hp} {s : Shared} {p : Addr} {xs ys : List V} {its its' : List Value} {n n' : Nat} {f : Obj -> Obj} (I : Inv X pins σ H s) (h : H p = some (.lst xs))
  (ho : s.heap.get? p = some { cls := .type "list", data := .seq its.toArray n }) (hf : f { cls := .type "list", data := .seq its.toArray n } = { cls := .type "list", data := .seq its'.toArray n' }) (r : Vals ys its') (hz : ys.length <= sizeLine) (t : Nat) :
  Inv X pins σ (upd H p (.lst ys)) { s with heap := s.heap.update p f, toks := t } := by
 have e : (s.heap.update p f).get? p = some { cls := .type "list", data := .seq its'.toArray n' } := by
  rw [Heap.get?_update_self f ho (by rw [hf] <;> rfl), hf]
 refine I.write (x := p) (e := p) (by rw [h]; trivial) (.inl rfl) (fun b u hb q => (Heap.get?_update_other _ _ (Ne.symm hb)).trans q) ⟨_, e⟩ ?_
 exact ⟨hz, its', n', r, e⟩
def zrf : V -> V -> V -> Hp -> (Hp -> Prop) -> Prop := fun o i v H Q => ∃ p xs k j, o = .ref p /\ i = .int k /\ H p = some (.lst xs) /\ ixN xs.length k = some j /\ Q (upd H p (.lst (xs.set j v)))
theorem set_list : zsn X zrf := by
 intro pins s σ H o i v ov iv u Q I ro ri rv h
 obtain ⟨p, xs, k, j, rfl, rfl, hp, hj, q⟩ := h
 cases ro
 obtain ⟨t, rfl⟩ := ri
 obtain ⟨its, n, r, ho, hz⟩ := I.lst hp
 obtain ⟨h1, h2, h3, h4⟩ := zlj hj
 have hl := r.length
 have hn := zf2
 have I' : Inv X pins σ (upd H p (.lst (xs.set j v))) { s with heap := s.heap.update p (Obj.mapSeq (·.setIfInBounds j u)) } :=
  I.zqq hp ho (zjV its n j u) (r.set rv j) (by rw [List.length_set]; exact hz) s.toks
 by_cases h0 : 0 <= k
 ·have hk : k.toNat = j := by
   rw [seqIndex_of h0 h4] at h1
   exact Option.some.inj h1
  exact PySem.W.ki_setAt ho h0 (by omega) (by rw [List.size_toArray, <- hl]; exact h4) (by rw [hk]; exact ⟨_, I', q⟩)
 ·have hk : (k + (its.toArray.size : Int)).toNat = j := by
   rw [seqIndex_neg (by omega) h3] at h1
   rw [List.size_toArray, <- hl]
   exact Option.some.inj h1
  exact PySem.W.ki_setBack ho (by omega) (by rw [List.size_toArray, <- hl]; exact h3) (by omega) (by rw [hk]; exact ⟨_, I', q⟩)
theorem zhE (lo hi : Option Int) (n : Nat) : (sliceBounds lo hi none n).1 = ((HT.sIx n 0 lo : Nat) : Int) /\ (sliceBounds lo hi none n).2.1 = ((HT.sIx n n hi : Nat) : Int) /\ (sliceBounds lo hi none n).2.2 = 1 := by
 refine ⟨?_, ?_, rfl⟩
 ·cases lo with
  | none => simp [sliceBounds, HT.sIx]
  | some i =>
   simp only [sliceBounds, HT.sIx, Option.getD_none, show (1 : Int) > 0 by decide, if_true]
   by_cases h : i < 0
   ·simp only [h, if_true] <;> omega
   ·simp only [h, if_false] <;> omega
 ·cases hi with
  | none => simp [sliceBounds, HT.sIx]
  | some i =>
   simp only [sliceBounds, HT.sIx, Option.getD_none, show (1 : Int) > 0 by decide, if_true]
   by_cases h : i < 0
   ·simp only [h, if_true] <;> omega
   ·simp only [h, if_false] <;> omega
theorem zgL (its : List Value) (lo hi : Option Int) : slicePick its.toArray lo hi none = ((its.drop (HT.sIx its.length 0 lo)).take (HT.sIx its.length its.length hi - HT.sIx its.length 0 lo)).toArray := by
 obtain ⟨h1, h2, h3⟩ := zhE lo hi its.toArray.size
 unfold slicePick
 rw [h1, h2, h3]
 simp only [sliceRange_one, pick_run, List.size_toArray] <;> rfl
def zr4 (K : PySem.W.Frag) : V -> Option Int -> Option Int -> Hp -> VK -> Prop := fun x lo hi H Q => ∃ a xs, x = .ref a /\ SqL K H a xs /\ ∀ p, H p = none -> Q (.ref p) (upd H p (.lst (zl4 xs lo hi)))
theorem znR : SlR X (zr4 X.K) := by
 intro pins s σ H x v vl vu lo hi sl Q I rx hs pl pu h
 obtain ⟨a, xs, rfl, hx, q⟩ := h
 cases rx
 obtain ⟨its, r, ht, hz⟩ := I.list hx
 have hlen := r.length
 refine ⟨"list", _, slot_list_getitem.lookup, ht.isList.typeIs, ?_⟩
 refine wpAny_getItem_list_slice ht.isList hs pl pu .none (by simp) ?_ (by rw [List.size_toArray] <;> omega)
 rw [zgL, <- hlen]
 refine ⟨.ref s.heap.objs.size, _, I.laid (t' := s.toks) (o := .lst (zl4 xs lo hi)) (fun b ob q => Heap.get?_push_of_some _ q) (Nat.le_refl _) ?_, rfl, q _ (I.hok.fresh (Nat.le_refl _))⟩
 exact ⟨Nat.le_trans (zgb xs lo hi) hz, _, 0, (r.drop (HT.sIx xs.length 0 lo)).take (HT.sIx xs.length xs.length hi - HT.sIx xs.length 0 lo), Heap.get?_push_size _ rfl⟩
theorem zij : zcf X (.builtin "len") (fun xs H Q => ∃ p ys, xs = [.ref p] /\ (SqL X.K H p ys \/ SqT X.K H p ys) /\ Q (.int ys.length) H) := by
 intro pins s σ H xs us Q I r h
 obtain ⟨p, ys, rfl, hq, q⟩ := h
 obtain ⟨u, rfl, rx⟩ := vals1 r
 cases rx
 have hn := zf2
 rcases hq with hq | hq
 ·obtain ⟨its, r', pl, hz⟩ := I.list hq
  have hlen := r'.length
  exact Calls.call_len_list pl.isList (by simp only [List.size_toArray] <;> omega) ⟨.int ys.length, H, I.tok _, ⟨s.toks + 1, by rw [List.size_toArray, hlen]⟩, q⟩
 ·obtain ⟨its, r', pl, hz⟩ := I.tuple hq
  have hlen := r'.length
  exact len_tuple pl (by simp only [List.size_toArray] <;> omega) ⟨.int ys.length, H, I.tok _, ⟨s.toks + 1, by rw [List.size_toArray, hlen]⟩, q⟩
theorem zii : zcf X (.builtin "len") (fun xs H Q => ∃ z, xs = [.str z] /\ z.length <= sizeLine /\ Q (.int z.length) H) := by
 intro pins s σ H xs us Q I r h
 obtain ⟨z, rfl, hz, q⟩ := h
 obtain ⟨u, rfl, t, rfl⟩ := vals1 r
 have hn := zf2
 exact len_str (by omega) ⟨.int z.length, H, I.tok _, ⟨_, rfl⟩, q⟩
theorem zcf.or {f : Value} {r r' : List V -> Hp -> VK -> Prop} (h : zcf X f r) (h' : zcf X f r') : zcf X f (fun xs H Q => r xs H Q \/ r' xs H Q) := by
 intro pins s σ H xs us Q I rs q
 rcases q with q | q
 ·exact h pins s σ H xs us Q I rs q
 ·exact h' pins s σ H xs us Q I rs q
theorem zih : zcf X (.type "list") (fun xs H Q => ∃ p ys, xs = [.ref p] /\ (SqL X.K H p ys \/ SqT X.K H p ys) /\ ∀ l, H l = none -> Q (.ref l) (upd H l (.lst ys))) := by
 intro pins s σ H xs us Q I r h
 obtain ⟨p, ys, rfl, hq, q⟩ := h
 obtain ⟨u, rfl, rx⟩ := vals1 r
 cases rx
 have fin : ∀ (its : List Value), Vals ys its -> ys.length <= sizeLine -> ∀ (h' : Heap) (c' : Nat), (∀ b o', s.heap.get? b = some o' -> h'.get? b = some o') ->
   h'.get? s.heap.objs.size = some { cls := .type "list", dict := none, data := .seq its.toArray c', slots := #[] } -> EP X pins σ Q (.ref s.heap.objs.size) { s with heap := h' } := fun its r' hz h' c' kp e =>
  ⟨.ref s.heap.objs.size, _, I.laid (t' := s.toks) kp (Nat.le_refl _) (show zdk X.prog X.w _ h' _ (.lst ys) from ⟨hz, its, c', r', e⟩), rfl, q _ (I.hok.fresh (Nat.le_refl _))⟩
 rcases hq with hq | hq
 ·obtain ⟨its, r', pl, hz⟩ := I.list hq
  have hlen := r'.length
  obtain ⟨o, ho, hc, n, hd⟩ := pl.isList
  exact call_list_seq p (.inl rfl) ho hc hd (fun h' c' kp e => fin its r' hz h' c' kp e) (by simp only [List.size_toArray] <;> omega)
 ·obtain ⟨its, r', pl, hz⟩ := I.tuple hq
  have hlen := r'.length
  obtain ⟨o, ho, hc, n, hd⟩ := pl
  exact call_list_seq p (.inr rfl) ho hc hd (fun h' c' kp e => fin its r' hz h' c' kp e) (by simp only [List.size_toArray] <;> omega)
theorem zhi : zcf X (.type "tuple") (fun xs H Q => ∃ p ys, xs = [.ref p] /\ ((SqL X.K H p ys /\ ∀ l, H l = none -> Q (.ref l) (upd H l (.tup ys))) \/ (SqT X.K H p ys /\ Q (.ref p) H))) := by
 intro pins s σ H xs us Q I r h
 obtain ⟨p, ys, rfl, h⟩ := h
 obtain ⟨u, rfl, rx⟩ := vals1 r
 cases rx
 rcases h with ⟨hq, q⟩ | ⟨hq, q⟩
 ·obtain ⟨its, r', pl, hz⟩ := I.list hq
  have hlen := r'.length
  refine call_tuple_list pl.isList (fun h' kp => ?_) (by simp only [List.size_toArray] <;> omega)
  have I1 : Inv X pins σ H { s with heap := h' } := I.kept (t' := s.toks) kp
  have I2 : Inv X pins σ (upd H h'.objs.size (.tup ys)) { s with heap := h'.push { cls := .type "tuple", data := .seq its.toArray } } :=
   I1.laid (t' := s.toks) (fun b o e => Heap.get?_push_of_some _ e) (Nat.le_refl _) (show zdk X.prog X.w _ _ _ (.tup ys) from ⟨hz, its, r', IsTup.new _ _⟩)
  exact ⟨.ref h'.objs.size, _, I2, rfl, q _ (I1.hok.fresh (Nat.le_refl _))⟩
 ·obtain ⟨its, r', pl, hz⟩ := I.tuple hq
  exact call_tuple_same pl ⟨.ref p, H, I, rfl, q⟩
def tyV (K : PySem.W.Frag) (T : String) (x : V) (H : Hp) : Prop := match x with
 | .str _ => T = "str"
 | .int _ => T = "int"
 | .ref p => (T = "list" /\ ∃ xs, SqL K H p xs) \/ (T = "tuple" /\ ∃ o, K.lookup p = some o /\ o.cls = .type "tuple" /\ o.dict = none) \/
   (T = "dict" /\ ((∃ kvs, H p = some (.dK kvs)) \/ ∃ kvs, H p = some (.dT kvs))) \/ (T = "set" /\ ∃ S n, H p = some (.set S n))
 | _ => False
theorem zpc {pins : List (Addr × Obj)} {σ : St} {H : Hp} {s : Shared} {T : String} {x : V} {v : Value} (I : Inv X pins σ H s) (r : RelV x v) (ty : tyV X.K T x H) :
  s.TypeIs v T /\ ∀ a, v = .ref a -> ∃ ob, s.heap.get? a = some ob /\ ob.dict = none := by
 cases x with
 | str z =>
  obtain ⟨t, rfl⟩ := r
  cases (show T = "str" from ty)
  exact ⟨typeIs_str s z t, fun _ e => nomatch e⟩
 | int i =>
  obtain ⟨t, rfl⟩ := r
  cases (show T = "int" from ty)
  exact ⟨typeIs_int s i t, fun _ e => nomatch e⟩
 | ref p =>
  cases r
  rcases ty with ⟨rfl, xs, hq⟩ | ⟨rfl, o, hk, hc, hd⟩ | ⟨rfl, hk⟩ | ⟨rfl, S, n, hk⟩
  ·obtain ⟨its, _, pl, _⟩ := I.list hq
   refine ⟨pl.isList.typeIs, fun a e => ?_⟩
   cases e
   obtain ⟨o, n, e, c, hd, _⟩ := pl
   exact ⟨o, e, hd⟩
  ·refine ⟨⟨o, I.kIn p o hk, hc⟩, fun a e => ?_⟩
   cases e
   exact ⟨o, I.kIn _ o hk, hd⟩
  ·have z : ∃ o, s.heap.get? p = some o /\ o.ExactDict := by
    rcases hk with ⟨kvs, hk⟩ | ⟨kvs, hk⟩
    ·obtain ⟨_, _, _, _, o, _, _, e, ex, _⟩ := I.hok p _ hk
     exact ⟨o, e, ex⟩
    ·obtain ⟨_, _, _, _, o, _, _, e, ex, _⟩ := I.hok p _ hk
     exact ⟨o, e, ex⟩
   obtain ⟨o, e, ex⟩ := z
   refine ⟨⟨o, e, ex.1⟩, fun a e2 => ?_⟩
   cases e2
   exact ⟨o, e, ex.2.1⟩
  ·obtain ⟨o, _, _, _, e, ex, _⟩ := I.hok p _ hk
   refine ⟨⟨o, e, ex.1⟩, fun a e2 => ?_⟩
   cases e2
   exact ⟨o, e, ex.2.1⟩
 | _ => exact False.elim ty
def tBM (K : PySem.W.Frag) (T : String) (r : V -> List V -> Hp -> VK -> Prop) (to : TE) (t : TA) : TE := fun σ H Q => to σ H fun x H1 => tyV K T x H1 /\ t σ H1 fun xs H2 => r x xs H2 Q
variable {o e : Expr} {es : List Expr} {to : TE} {t : TA} {name : Str} {apos cpos : Pos} {T id : String} {r : V -> List V -> Hp -> VK -> Prop}
theorem zro (pa : PlainAttrs T) (slot : Slot T name id) (hty : typeOf (.builtin id) = pure (.type "method_descriptor")) (hm : MtR X id r) (ho : PE X o to) (ha : PA X (e :: es) t)
  (hbase : attributeBase o name X.env (eval o X.env) = eval o X.env := by rfl)
  (hfew : ((backTo cpos (starEach (e :: es) X.env)).all (fun x => !x.1) && (backToKw cpos (keywordEach [] X.env)).all (fun x => x.1.isSome)
   && decide ((e :: es).length + ([] : List Keyword).length + (if ([] : List Keyword).isEmpty then 0 else 1) < 30)) = true := by rfl)
  (hline : (apos.endLine == cpos.line) = true := by rfl) (hs : starEach (e :: es) X.env = (false, eval e X.env) :: starEach es X.env := by rfl) (hplain : (backTo cpos (starEach es X.env)).any (·.1) = false := by rfl) :
  PE X (.Call (.Attribute o name apos) (e :: es) [] cpos) (tBM X.K T r to t) := by
 intro pins s σ H Q I h
 refine wpAny_Call_method_late hbase hfew hline rfl (thn (ho pins s σ H _ I h) fun v s1 ⟨x, H1, I1, r1, ty, q1⟩ => ?_)
 obtain ⟨h1, h2⟩ := zpc I1 r1 ty
 refine ⟨T, id, pa, slot, hty, h1, h2, ?_⟩
 have hA := ha cpos pins s1 σ H1 _ I1 q1
 rw [hs] at hA ⊢
 refine Calls.callWith_builtin (by show (false || (backTo cpos (starEach es X.env)).any (·.1)) = false; rw [hplain] <;> rfl) (Calls.evalArgs_plain ?_)
 exact thn hA fun us s2 ⟨vs, H2, I2, r2, q2⟩ => hm pins s2 σ H2 x vs v us Q I2 r1 r2 q2
end
end L2
namespace L2
open PySem PySem.Spec PyProof.Rows
def MtM (X : Cx) (id : String) (r : V -> List V -> Hp -> VK -> Prop) : Prop :=
 ∀ (pins : List (Addr × Obj)) (s : Shared) (σ : St) (H : Hp) (x : V) (xs : List V) (v : Value) (us : List Value) (Q : VK), Inv X pins σ H s -> RelV x v -> Vals xs us -> r x xs H Q ->
  wpAny (model X.prog X.w) X.A (call (.builtin id) (v :: us)) (EP X pins σ Q) X.xe s
theorem Vals.one : ∀ {x : V} {us : List Value}, Vals [x] us -> ∃ u, us = [u] /\ RelV x u
 | _, _, .cons r .nil => ⟨_, rfl, r⟩
theorem Vals.reverse {xs : List V} {us : List Value} (h : Vals xs us) : Vals xs.reverse us.reverse := by
 induction h with
 | nil => exact .nil
 | cons r t ih => rw [List.reverse_cons, List.reverse_cons]; exact Vals.append ih (.cons r .nil)
theorem Vals.rep {xs : List V} {us : List Value} (h : Vals xs us) : ∀ k : Nat, Vals (List.replicate k xs).flatten (List.replicate k us).flatten
 | 0 => .nil
 | k + 1 => by
  rw [List.replicate_succ, List.replicate_succ, List.flatten_cons, List.flatten_cons]
  exact Vals.append h (Vals.rep h k)
section
variable {X : Cx} {pins : List (Addr × Obj)} {σ : St} {H : Hp} {s : Shared} {l b : Addr} {xs ys zs : List V}
theorem Inv.zsF {its its' : List Value} {n : Nat} {f : Array Value -> Array Value} {t' : Nat} (I : Inv X pins σ H s) (hH : H l = some (.lst xs))
  (e : s.heap.get? l = some { cls := .type "list", data := .seq its.toArray n }) (hf : f its.toArray = its'.toArray) (hv : Vals ys its') (hz : ys.length <= sizeLine) :
  Inv X pins σ (upd H l (.lst ys)) { s with heap := s.heap.update l (Obj.mapSeq f), toks := t' } := by
 have q := PySem.IsL.update e f
 rw [hf] at q
 refine I.write (x := l) (e := l) (by rw [hH]; exact trivial) (.inl rfl) (fun b' u hb hu => (Heap.get?_update_other s.heap (Obj.mapSeq f) (Ne.symm hb)).trans hu) ⟨_, q⟩ ?_
 exact ⟨hz, its', _, hv, q⟩
theorem Inv.zsG {its : List Value} {t' : Nat} (I : Inv X pins σ H s) (hv : Vals ys its) (hz : ys.length <= sizeLine) :
  Inv X pins σ (upd H s.heap.objs.size (.lst ys)) { s with heap := s.heap.push { cls := .type "list", data := .seq its.toArray }, toks := t' } :=
 I.laid (fun _ _ q => Heap.get?_push_of_some _ q) (Nat.le_refl _) ⟨hz, its, 0, hv, Heap.get?_push_size _ rfl⟩
theorem Inv.fresh (I : Inv X pins σ H s) : H s.heap.objs.size = none := I.hok.fresh (Nat.le_refl _)
theorem Inv.zsE (I : Inv X pins σ H s) (hH : H l = some (.lst xs)) : xs.length <= sizeLine /\ ∃ (its : List Value) (n : Nat), Vals xs its /\ xs.length = its.length /\ s.heap.get? l = some { cls := .type "list", data := .seq its.toArray n } := by
 obtain ⟨z, its, n, r, e⟩ := I.hok l _ hH
 exact ⟨z, its, n, r, r.length, e⟩
end
section
variable {X : Cx}
def zkN : V -> List V -> Hp -> VK -> Prop := fun x vs H Q => ∃ l xs y, x = .ref l /\ vs = [y] /\ H l = some (.lst xs) /\ xs.length < sizeLine /\ Q .non (upd H l (.lst (xs ++ [y])))
theorem zh1 : MtM X "list.append" zkN := by
 intro pins s σ H x vs v us Q I rx rv h
 obtain ⟨l, xs, y, rfl, rfl, hH, hz, q⟩ := h
 cases rx
 obtain ⟨u, rfl, ru⟩ := rv.one
 obtain ⟨z, its, n, r, hl, e⟩ := I.zsE hH
 refine call_meets F.slot_list_append ⟨_, e, rfl⟩ F.entry_list_append (F.args_list_append_2 _ _) (PySem.list_append l its.toArray n u (by rw [List.size_toArray]; omega)) ⟨e, ?_⟩
 refine ⟨.non, _, I.zsF (its' := its ++ [u]) hH e (by simp) (r.append (.cons ru .nil)) ?_, rfl, q⟩
 rw [List.length_append, List.length_singleton]
 omega
end
section
variable {prog : Program} {w : World} {A : Around} {E : Value -> Shared -> Prop} {s : Shared}
end
section
variable {X : Cx}
end
end L2
namespace Att
open PySem PySem.W PySem.Calls PyProof.Rows
theorem zf4 {P : Params} {h : Heap} : ∀ (ns : List Int) (vs : List Value), WellAll P h vs (ns.map WData.int) -> IntsAre vs ns := by
 intro ns
 induction ns with
 | nil =>
  intro vs w
  rw [List.map_nil] at w
  cases w
  exact .nil
 | cons n ns ih =>
  intro vs w
  rw [List.map_cons] at w
  cases w with
  | cons a b =>
   cases a
   exact .cons _ _ (ih _ b)
theorem zkG {l : OpenLaw} {n : Nat} (hn : l.most = some n) {P : Params} {h : Heap} {args : List WData} {vals : List Value}
  (hpre : l.row.toRowW.claim.pre args = true) (hwl : WellAll P h vals args) :
  ∃ a vs ns, vals = [Value.ref a] /\ args = [WData.list (ns.map WData.int)] /\ h.get? a = some { cls := .type "list", data := .seq vs.toArray } /\ IntsAre vs ns /\ ns.length <= n := by
 have hsh : WShape.hasAll [] args [.list .int] = true := (pre_splitW hpre).1
 have hc : l.pre.holds [] { args := args } = true := (pre_splitW hpre).2
 obtain ⟨d, r, rfl, h1, h2⟩ := hasAllW_cons hsh
 obtain rfl := hasAllW_nil h2
 obtain ⟨xs, rfl, h3⟩ := hasW_list h1
 obtain ⟨ns, rfl⟩ := items_int h3
 have hlen : ns.length <= n := by
  unfold OpenLaw.pre at hc
  have h4 : (WTm.not (.lt (.lit (.int (n : Int))) (.len (.arg 0)))).holds [] { args := [.list (ns.map .int)] } = true := by
   have h4 := (holds_andW hc).1
   rw [hn] at h4
   exact h4
  have h5 := condW_of h4 (w_not (w_lt w_lit (w_len_list (w_arg rfl))))
  rw [List.length_map] at h5
  refine Nat.le_of_not_lt fun q => ?_
  have q' : (n : Int) < ((ns.length : Nat) : Int) := by omega
  first
   | (rw [decide_eq_true q'] at h5; exact absurd h5 (by decide))
   | (simp at h5; omega)
 cases hwl with
 | cons w1 w2 =>
  cases w2
  cases w1 with
  | list ho hall => exact ⟨_, _, ns, rfl, rfl, ho, zf4 ns _ hall, hlen⟩
theorem zkO (l : OpenLaw) (args : List WData) : l.row.toRowW.claim.post args (.bool true) args = true :=
 postW_of (r := l.row.toRowW) (X := (true == true))
  (show WShape.has [] (.bool true) .bool = true by first | rfl | decide | simp [WShape.has, WShape.arms, WShape.armsAll])
  (show (WTm.eq .res (.lit (.bool true))).value [] { args := args, res := some (.bool true), after := args } = some (.bool (true == true)) from w_eq_bool (w_res rfl) w_lit) rfl
theorem ziV {l : OpenLaw} {n : Nat} {q : Program} {loose : List Str} {XP : (Str -> Option Value) -> Heap -> Prop} {YP : World -> Heap -> Prop} {d : DefRec}
  (hn : l.most = some n) (hdf : d.params.defaults = [])
  (call : ∀ (w : World) (s₀ s₁ : Shared) (mg mb : Str -> Option Value) (fa : Addr) (o : Obj) (pm cd doc : Value) (a : Addr) (vs : List Value) (ns : List Int),
   Ground q loose [] XP w s₀ mg mb s₁.heap -> YP w s₁.heap ->
   s₁.heap.get? fa = some o -> o.data = .func (docDef d.name d.params d.body d.scope pm cd doc) -> s₁.heap.CodeRec cd d.name -> mg d.name = some (.ref fa) ->
   s₁.heap.get? a = some { cls := .type "list", data := .seq vs.toArray } -> IntsAre vs ns -> ns.length <= n -> s₁.gens = #[] ->
   codeAny (model l.prog w) callerA (.call (.ref fa) ⟨[.ref a], []⟩) (fun r s' => r = .ok (.ret (.bool true)) /\ OldK s₁.heap s'.heap /\ s'.os = s₁.os /\ AllBare s'.gens) s₁) :
  WalkO q loose XP YP l.row.toRowW d [] (fun f vs => PySem.call f vs) := by
 intro w s₀ s₁ mg mb G Y fa o pm cd doc dV kV ho hd hcd hD hmg hg args vals as hpre hlay hrd hwl hlo
 obtain rfl : dV = .none := Dflts.none hD hdf
 obtain rfl : kV = .none := Dflts.noKw hD
 obtain ⟨a, vs, ns, rfl, rfl, hobj, hints, hlen⟩ := zkG hn hpre hwl
 refine enter_call (codeAny_mono (call w s₀ s₁ mg mb fa o pm cd doc a vs ns G Y ho (fd_plain hd) hcd hmg hobj hints hlen hg) fun r s' hq => ?_)
 obtain ⟨rfl, h2, h3, h4⟩ := hq
 exact ⟨.inl ⟨.bool true, .bool true, [], rfl, fun _ => rfl, .bool true, zkO l _, fun _ => ⟨List.Pairwise.nil, fun _ hm => (nomatch hm)⟩⟩, h2, h3, h4⟩
section
variable {prog : Program} {w : World} {A : Around} {E : Value -> Shared -> Prop} {s : Shared} {K : Frag}
end
end Att
namespace L2
open PySem PySem.Spec PyProof.Rows
theorem zhw : ∀ {vs : List Value} {ns : List Int}, IntsAre vs ns -> Vals (ns.map V.int) vs
 | _, _, .nil => .nil
 | _, _, .cons n t h => .cons ⟨t, rfl⟩ (zhw h)
def zq2 (H : Hp) : Prop := ∀ b, H b = none \/ ∃ o xs, H b = some (.frz o (.lst xs))
theorem zmG {P : Program} {w : World} {K : PySem.W.Frag} {mg mb : Str -> Option Value} {CX : CXT} {k : Nat} {fa a : Addr} {fd : FuncData} {x : Str} {sp : Sp} {s₁ : Shared} {vs : List Value} {ns : List Int}
  (KX : K.In s₁.heap) (hns : s₁.heap.Ns mainGlobals mg) (hb : s₁.heap.Ns builtinsNs mb) (hbb : ∀ x : Str, x ≠ "__name__" -> mb x = bootBuiltins x) (hlim : s₁.heap.NoLimit) (hg : s₁.gens = #[])
  (ha : s₁.heap.get? a = some { cls := .type "list", data := .seq vs.toArray }) (hi : IntsAre vs ns) (hl : ns.length <= sizeLine) (hr : ze2 k callerA)
  (F : ∀ base : Heap, K.In base -> base.Ns mainGlobals mg -> zkm P w K mg base CX k fa fd [x] sp) (hbind : ∀ (s : Shared) (u : Value), BindsTo s fd ⟨[u], []⟩ [(x, u)])
  (hsp : ∀ H : Hp, zq2 H -> SqL K H a (ns.map V.int) -> sp [.ref a] H (fun v _ => v = .bl true) fun _ _ _ => False)
  (hCX : ∀ H e s', CX [] H s₁ (fun _ _ _ => False) e s' -> False) :
  codeAny (model P w) callerA (.call (.ref fa) ⟨[.ref a], []⟩) (fun r s' => r = .ok (.ret (.bool true)) /\ OldK s₁.heap s'.heap /\ s'.os = s₁.os /\ AllBare s'.gens) s₁ := by
 have rv := zhw hi
 have lenV := hi.length
 -- from an abstract heap in which nothing but the script may be tracked
 have core : ∀ H : Hp, zq2 H -> SqL K H a (ns.map V.int) -> HOk P w H s₁.heap -> (∀ b, H b ≠ none -> b = a) -> (H a ≠ none -> K.lookup a = none) ->
   codeAny (model P w) callerA (.call (.ref fa) ⟨[.ref a], []⟩) (fun r s' => r = .ok (.ret (.bool true)) /\ OldK s₁.heap s'.heap /\ s'.os = s₁.os /\ AllBare s'.gens) s₁ := by
  intro H hO hS hok hA hK
  have base_of : ∀ {b : Addr} {o : Obj}, s₁.heap.get? b = some o -> H b = none -> (zmL s₁.heap H).get? b = some o := fun e n => zmK e n
  have noA : ∀ {b : Addr} {o : Obj} {es : Array DictEntry} {ep : Nat}, s₁.heap.get? b = some o -> o.data = .dict es ep -> H b = none := fun {b o es ep} e d => by
   cases q : H b with
   | none => rfl
   | some u =>
    have e' : b = a := hA b (by rw [q]; simp)
    subst e'
    rw [ha] at e; cases e
    have d' : Data.seq vs.toArray _ = Data.dict es ep := d
    cases d'
  have nsK : ∀ {b : Addr} {m : Str -> Option Value}, s₁.heap.Ns b m -> (zmL s₁.heap H).Ns b m := fun {b m} ⟨o, es, ep, e, d, r⟩ => ⟨o, es, ep, base_of e (noA e d), d, r⟩
  have hKb : K.In (zmL s₁.heap H) := fun b o e => base_of (KX b o e) (by
   cases q : H b with
   | none => rfl
   | some u =>
    have e' : b = a := hA b (by rw [q]; simp)
    subst e'
    rw [hK (by rw [q]; simp)] at e; cases e)
  have hM : Mod K mg (zmL s₁.heap H) := ⟨hKb, nsK hns, ⟨mb, nsK hb, hbb⟩, let ⟨mc, h1, h2⟩ := hlim; ⟨mc, nsK h1, h2⟩⟩
  have e0 : zq5 P w K mg (zmL s₁.heap H) callerA [] s₁ H := ⟨rfl, hM, fun b o e => zou e, Nat.le_of_eq (zls _ _), trivial, fun b hb => absurd (show b ∈ ([] : List Addr) from hb) (by simp), hok, .of_eq hg⟩
  refine codeAny_mono ((F _ hKb (nsK hns)).run callerA [] s₁ H ⟨[.ref a], []⟩ [.ref a] [.ref a] _ _ hr e0 (hbind s₁ (.ref a)) (.cons rfl .nil) (hsp H hO hS)) fun r s' h => ?_
  cases r with
  | error e => exact (hCX H e s' h).elim
  | ok fl =>
   cases fl with
   | next => exact False.elim h
   | brk => exact False.elim h
   | cont => exact False.elim h
   | ret u =>
    obtain ⟨v, H', os, bare, un, hok', r', q⟩ := h
    have q' : v = .bl true := q
    subst q'
    obtain rfl : u = Value.bool true := r'
    refine ⟨rfl, OldK.of_keep fun b o e => ?_, os, bare⟩
    cases q : H b with
    | none => exact un.keep b o e q (by intro z; exact absurd (show b ∈ ([] : List Addr) from z) (by simp)) (by simp)
    | some u =>
     rcases hO b with z | ⟨ob, xs, z⟩
     ·rw [q] at z; cases z
     ·have z2 := un.zmN b ob _ z
      obtain ⟨e1, _⟩ := hok b _ z
      obtain ⟨e2, _⟩ := hok' b _ z2
      rw [e] at e1; cases e1
      exact e2
 cases hk : K.lookup a with
 | some o =>
  -- the script is one of the module's own objects
  have e := KX a o hk
  rw [ha] at e
  cases e
  refine core (fun _ => none) (fun _ => .inl rfl) (.inr ⟨_, vs.toArray, _, hk, rfl, rfl, rfl, by rw [List.size_toArray, lenV]; exact hl, by simpa using rv⟩) (fun b u z => by have z' : (none : Option HO) = some u := z; cases z') (fun b z => absurd rfl z) fun z => absurd rfl z
 | none =>
  refine core (fun b => if b = a then some (.frz { cls := .type "list", data := .seq vs.toArray } (.lst (ns.map V.int))) else none) (fun b => ?_) (.inl (.inr ⟨{ cls := .type "list", data := .seq vs.toArray }, if_pos rfl⟩)) (fun b u z => ?_) (fun b z => ?_) fun _ => hk
  ·by_cases hb : b = a
   ·exact .inr ⟨_, _, if_pos hb⟩
   ·exact .inl (if_neg hb)
  ·by_cases hb : b = a
   ·have z' := (if_pos hb).symm.trans z
    cases z'
    subst hb
    exact ⟨ha, by rw [List.length_map]; exact hl, vs, _, rv, ha⟩
   ·have z' := (if_neg hb).symm.trans z
    cases z'
  ·by_cases hb : b = a
   ·exact hb
   ·exact absurd (if_neg hb) z
end L2
namespace L2
open PySem PySem.Spec PyProof.Rows
theorem znN {l : PySem.W.OpenLaw} {n k : Nat} {q : Program} {loose : List Str} {XP : (Str -> Option Value) -> Heap -> Prop} {YP : World -> Heap -> Prop} {d : DefRec} {K : Params -> PySem.W.Frag} {CX : World -> CXT} {sp : World -> Sp} {x : Str}
  (hn : l.most = some n) (hn2 : n <= sizeLine) (hdf : d.params.defaults = []) (hr : ze2 k callerA)
  (hY : ∀ (w : World) (h : Heap), YP w h -> (K w.params).In h)
  (F : ∀ (w : World) (mg : Str -> Option Value) (fa : Addr) (h : Heap), (K w.params).In h -> h.Ns mainGlobals mg -> mg d.name = some (.ref fa) ->
   ∃ fd : FuncData, (∀ (s : Shared) (u : Value), BindsTo s fd ⟨[u], []⟩ [(x, u)]) /\
    ∀ base : Heap, (K w.params).In base -> base.Ns mainGlobals mg -> zkm l.prog w (K w.params) mg base (CX w) k fa fd [x] (sp w))
  (hsp : ∀ (w : World) (H : Hp) (a : Addr) (ns : List Int), ns.length <= n -> zq2 H -> SqL (K w.params) H a (ns.map V.int) -> sp w [.ref a] H (fun v _ => v = .bl true) fun _ _ _ => False)
  (hCX : ∀ (w : World) (H : Hp) (s : Shared) (e : Value) (s' : Shared), CX w [] H s (fun _ _ _ => False) e s' -> False) :
  PySem.W.WalkO q loose XP YP l.row.toRowW d [] (fun f vs => PySem.call f vs) := by
 refine Att.ziV hn hdf fun w s₀ s₁ mg mb fa o pm cd doc a vs ns G Y ho hd hcd hmg hobj hints hlen hg => ?_
 have KX := hY w _ Y
 obtain ⟨fd, hb, hF⟩ := F w mg fa _ KX G.T.g hmg
 exact zmG KX G.T.g G.T.b G.T.builtins G.T.nolimit hg hobj hints (Nat.le_trans hlen hn2) hr hF hb (fun H hO hS => hsp w H a ns hlen hO hS) fun H e s' => hCX w H s₁ e s'
end L2
namespace L2
open PySem PySem.Spec PyProof.Rows
noncomputable def zaL (s : Stmt) : Arguments := match s with
 | .FunctionDef _ a _ _ _ _ _ _ _ _ => a
 | _ => { posonlyargs := [], args := [], vararg := none, kwonlyargs := [], kw_defaults := [], kwarg := none, defaults := [] }
noncomputable def zaE (s : Stmt) : List Stmt := match s with
 | .FunctionDef _ _ b _ _ _ _ _ _ _ => b
 | _ => []
noncomputable def zai (s : Stmt) : Scope := match s with
 | .FunctionDef _ _ _ _ _ _ sc _ _ _ => sc
 | _ => { kind := .function, names := [], isGenerator := false, isCoroutine := false }
abbrev CX0 : CXT := fun _ _ _ _ _ _ => False
abbrev E0 : XK := fun _ _ _ => False
theorem zrr {X : Cx} : Passes CX0 X E0 := fun _ _ _ _ _ _ _ h => h.elim
structure Fun (K : PySem.W.Frag) (x qual : Str) (st : Stmt) (f : Addr) (fd : FuncData) : Prop where
 ex : ∃ (oc : Value) (od : Option Addr) (kV doc pm : Value) (an : Option Addr) (cdv ct : Value) (osl : Array (Option Value)),
  fd = PySem.W.fnOf x qual (zaL st) (zaE st) (zai st) .none kV doc pm an cdv ct /\ K.lookup f = some ⟨oc, od, .func fd, osl⟩ /\ PySem.W.codeIn K cdv qual = true
 kp : PySem.W.keepIn K (.ref f) = true
section
variable {P : Program} {w : World} {K : PySem.W.Frag} {mg : Str -> Option Value} {base : Heap}
theorem Fun.ok {x qual : Str} {st : Stmt} {f : Addr} {fd : FuncData} {N ps : List Str} {k : Nat} {sp : Sp} (F : Fun K x qual st f fd) (S : zaM N ps (zai st)) (len : ∀ vs H Q E, sp vs H Q E -> vs.length = ps.length)
  (hbody : ∀ (cdv : Value) (A : Around) (outer : List Env) (s : Shared) (H : Hp) (vs : List V) (Q : VK) (E : XK), ze2 k (A.deeper (envOfC qual (zai st) s.heap.objs.size f cdv)) -> sp vs H Q E ->
   ∃ t, PSs (zmS CX0 P w K mg base N qual (zai st) f cdv A outer s H E).nox (zaE st) t /\ t { nx := fun _ H' => Q .non H', rt := Q } (start N vs) H) : zkm P w K mg base CX0 (k + 1) f fd ps sp := by
 obtain ⟨oc, od, kV, doc, pm, an, cdv, ct, osl, rfl, lk, hcd⟩ := F.ex
 refine zrF lk hcd S len fun A outer s H vs Q E hr hsp => ?_
 obtain ⟨t, h, q⟩ := hbody cdv A outer s H vs Q E hr hsp
 exact ⟨t, h.nox, q⟩
theorem Fun.binds {x qual : Str} {st : Stmt} {f : Addr} {fd : FuncData} {ps : List Str} (F : Fun K x qual st f fd)
  (h : ∀ (kV doc pm : Value) (an : Option Addr) (cdv ct : Value) (us : List Value), us.length = ps.length -> bindArgs (PySem.W.fnOf x qual (zaL st) (zaE st) (zai st) .none kV doc pm an cdv ct) ⟨us, []⟩ = pure (ps.zip us)) : Binds K fd ps [] := by
 obtain ⟨oc, od, kV, doc, pm, an, cdv, ct, osl, rfl, lk, hcd⟩ := F.ex
 exact .all (h kV doc pm an cdv ct)
theorem zbt {x qual : Str} {st : Stmt} {f : Addr} {oc : Value} {od an : Option Addr} {osl : Array (Option Value)} {kV doc pm cdv ct : Value} (l : K.lookup f = some ⟨oc, od, .func (PySem.W.fnOf x qual (zaL st) (zaE st) (zai st) .none kV doc pm an cdv ct), osl⟩)
  (c : PySem.W.codeIn K cdv qual = true) (k : PySem.W.keepIn K (.ref f) = true) : Fun K x qual st f (PySem.W.fnOf x qual (zaL st) (zaE st) (zai st) .none kV doc pm an cdv ct) := ⟨⟨oc, od, kV, doc, pm, an, cdv, ct, osl, rfl, l, c⟩, k⟩
end
section
variable {X : Cx}
theorem pv (i : Nat) {x : Str} {pos : Pos} (hN : X.N[i]? = some x := by rfl) (hv : Vis X.env.scope x := by first | exact Or.inl rfl | exact Or.inr (Or.inl rfl) | exact Or.inr (Or.inr rfl)) (hd : (x == ("__debug__" : Str)) = false := by decide)
  (hcd : (x == ("__classdict__" : Str)) = false := by decide) : PE X (.Name x pos) (zq7 i) := zpK hN hv hd hcd
end
end L2
namespace PySem
theorem zfk {env : Env} : ∀ (l : List (Str × NameKind)) (acc : List (Str × Addr)), (∀ y ∈ l, y.2 = .free -> ∃ c, env.cells.lookup y.1 = some c) ->
  ∃ cl, (forIn l acc (fun (x : Str × NameKind) r => if (x.2 == NameKind.free) = true then do let a <- cellOf env x.1; pure (ForInStep.yield ((x.1, a) :: r)) else pure (ForInStep.yield r)) : Sem (List (Str × Addr))) = pure cl /\
   (∀ x c, cl.lookup x = some c -> acc.lookup x = some c \/ ((x, NameKind.free) ∈ l /\ env.cells.lookup x = some c)) /\ (∀ x, (x, NameKind.free) ∈ l \/ (acc.lookup x).isSome -> (cl.lookup x).isSome)
 | [], acc, _ => ⟨acc, rfl, fun x c h => .inl h, fun x h => by simpa using h⟩
 | (n, k) :: l, acc, h => by
  by_cases hk : k = .free
  ·subst hk
   obtain ⟨c, hc⟩ := h (n, .free) List.mem_cons_self rfl
   obtain ⟨cl, e1, e2, e3⟩ := zfk l ((n, c) :: acc) fun y hy => h y (List.mem_cons_of_mem _ hy)
   refine ⟨cl, ?_, fun x d hx => ?_, fun x hx => ?_⟩
   ·rw [List.forIn_cons]
    simp only [beq_self_eq_true, if_true, cellOf, hc]
    exact e1
   ·rcases e2 x d hx with q | ⟨q1, q2⟩
    ·rw [List.lookup_cons] at q
     cases hxn : x == n with
     | true =>
      rw [hxn] at q
      have : x = n := by simpa using hxn
      subst this
      refine .inr ⟨List.mem_cons_self, ?_⟩
      rw [hc]; exact q
     | false => rw [hxn] at q; exact .inl q
    ·exact .inr ⟨List.mem_cons_of_mem _ q1, q2⟩
   ·refine e3 x ?_
    rcases hx with hx | hx
    ·rcases List.mem_cons.mp hx with q | q
     ·have : x = n := congrArg Prod.fst q
      subst this
      exact .inr (by simp [List.lookup_cons])
     ·exact .inl q
    ·refine .inr ?_
     rw [List.lookup_cons]
     cases x == n <;> simp [hx]
  ·have hb : (k == NameKind.free) = false := by simpa using hk
   obtain ⟨cl, e1, e2, e3⟩ := zfk l acc fun y hy => h y (List.mem_cons_of_mem _ hy)
   refine ⟨cl, ?_, fun x d hx => ?_, fun x hx => ?_⟩
   ·rw [List.forIn_cons]
    simp only [hb, Bool.false_eq_true, if_false]
    exact e1
   ·rcases e2 x d hx with q | ⟨q1, q2⟩
    ·exact .inl q
    ·exact .inr ⟨List.mem_cons_of_mem _ q1, q2⟩
   ·refine e3 x ?_
    rcases hx with hx | hx
    ·rcases List.mem_cons.mp hx with q | q
     ·exact absurd (congrArg Prod.snd q).symm hk
     ·exact .inl q
    ·exact .inr hx
theorem zj9 {scope : Scope} {env : Env} (h : ∀ y ∈ scope.names, y.2 = .free -> ∃ c, env.cells.lookup y.1 = some c) :
  ∃ cl, closureFor scope env = pure cl /\ (∀ x c, cl.lookup x = some c -> (x, NameKind.free) ∈ scope.names /\ env.cells.lookup x = some c) /\ ∀ x, (x, NameKind.free) ∈ scope.names -> (cl.lookup x).isSome := by
 obtain ⟨cl, e1, e2, e3⟩ := zfk (env := env) scope.names [] h
 refine ⟨cl, ?_, fun x c hx => ?_, fun x hx => e3 x (.inl hx)⟩
 ·simp only [closureFor]
  rw [e1]
  rfl
 ·rcases e2 x c hx with q | q
  ·simp at q
  ·exact q
theorem zcQ {env : Env} : ∀ {names : List (Str × NameKind)} {x : Str}, names.lookup x = some .free ->
  (names.map fun (n, k) => if (k == NameKind.free && env.scope.kind == .function && env.kindOf n == some .cell) then (n, NameKind.cell) else (n, k)).lookup x = some .cell \/
  (names.map fun (n, k) => if (k == NameKind.free && env.scope.kind == .function && env.kindOf n == some .cell) then (n, NameKind.cell) else (n, k)).lookup x = some .free
 | [], _, h => by simp at h
 | (n, k) :: r, x, h => by
  have ih := @zcQ env r x
  show List.lookup x ((if (k == NameKind.free && env.scope.kind == .function && env.kindOf n == some .cell) = true then (n, NameKind.cell) else (n, k)) :: _) = _ \/ List.lookup x ((if (k == NameKind.free && env.scope.kind == .function && env.kindOf n == some .cell) = true then (n, NameKind.cell) else (n, k)) :: _) = _
  cases hx : x == n with
  | true =>
   simp only [List.lookup_cons, hx] at h
   cases h
   by_cases hc : (NameKind.free == NameKind.free && env.scope.kind == .function && env.kindOf n == some .cell) = true
   ·rw [if_pos hc]; simp [List.lookup_cons, hx]
   ·rw [if_neg hc]; simp [List.lookup_cons, hx]
  | false =>
   simp only [List.lookup_cons, hx] at h
   by_cases hc : (k == NameKind.free && env.scope.kind == .function && env.kindOf n == some .cell) = true
   ·rw [if_pos hc]; simp only [List.lookup_cons, hx]; exact ih h
   ·rw [if_neg hc]; simp only [List.lookup_cons, hx]; exact ih h
theorem zfr {env : Env} : ∀ {names : List (Str × NameKind)} {x : Str}, (∀ y ∈ names, y.2 ≠ .cell) ->
  ((names.map fun (n, k) => if (k == NameKind.free && env.scope.kind == .function && env.kindOf n == some .cell) then (n, NameKind.cell) else (n, k)).lookup x = some .cell \/
  (names.map fun (n, k) => if (k == NameKind.free && env.scope.kind == .function && env.kindOf n == some .cell) then (n, NameKind.cell) else (n, k)).lookup x = some .free) -> (x, NameKind.free) ∈ names
 | [], _, _, h => by simp at h
 | (n, k) :: r, x, hn, h => by
  have ih := @zfr env r x fun y hy => hn y (List.mem_cons_of_mem _ hy)
  have h' : List.lookup x ((if (k == NameKind.free && env.scope.kind == .function && env.kindOf n == some .cell) = true then (n, NameKind.cell) else (n, k)) :: _) = some .cell \/ List.lookup x ((if (k == NameKind.free && env.scope.kind == .function && env.kindOf n == some .cell) = true then (n, NameKind.cell) else (n, k)) :: _) = some .free := h
  have hf : ∀ k', ((if (k == NameKind.free && env.scope.kind == .function && env.kindOf n == some .cell) = true then (n, NameKind.cell) else (n, k)) : Str × NameKind) = (n, k') -> (k' = .cell \/ k' = .free) -> k = .free := by
   intro k' e hk'
   by_cases hc : (k == NameKind.free && env.scope.kind == .function && env.kindOf n == some .cell) = true
   ·simp only [Bool.and_eq_true] at hc; simpa using hc.1.1
   ·rw [if_neg hc] at e
    have : k = k' := congrArg Prod.snd e
    subst this
    rcases hk' with q | q
    ·exact absurd q (hn (n, k) List.mem_cons_self)
    ·exact q
  cases hx : x == n with
  | true =>
   have hxn : x = n := by simpa using hx
   subst hxn
   by_cases hc : (k == NameKind.free && env.scope.kind == .function && env.kindOf x == some .cell) = true
   ·simp only [Bool.and_eq_true] at hc
    have : k = .free := by simpa using hc.1.1
    subst this; exact List.mem_cons_self
   ·rw [if_neg hc] at h'
    simp only [List.lookup_cons, beq_self_eq_true] at h'
    rcases h' with q | q
    ·exact absurd (Option.some.inj q) (hn (x, k) List.mem_cons_self)
    ·have := Option.some.inj q
     subst this; exact List.mem_cons_self
  | false =>
   refine List.mem_cons_of_mem _ (ih ?_)
   by_cases hc : (k == NameKind.free && env.scope.kind == .function && env.kindOf n == some .cell) = true
   ·rw [if_pos hc] at h'; simp only [List.lookup_cons, hx] at h'; exact h'
   ·rw [if_neg hc] at h'; simp only [List.lookup_cons, hx] at h'; exact h'
end PySem
namespace L2
open PySem PySem.Spec PyProof.Rows
noncomputable def zdB (pick : List (Option Nat)) (σ : St) : St := pick.map fun o => o.bind fun i => (σ[i]?).join
noncomputable def cxC (X : Cx) (N' : List Str) (scope : Scope) (cl : List (Str × Addr)) (C : Addr) (s : Shared) (H : Hp) (ex : List Addr) : Cx :=
 { X with N := N', s₀ := s, H₀ := H, env := compEnvC scope cl C X.env, outer := X.stack, stack := X.stack, ex := ex, fn := fun _ => false, pn := [], xe := fun _ _ => False }
noncomputable def zgy (N N' : List Str) (pick : List (Option Nat)) (scope : Scope) : Bool := (N'.zip pick).all fun p => match p.2 with
 | none => true
 | some j => decide (N[j]? = some p.1) && decide (scope.names.lookup p.1 = some .free)
structure zit (X : Cx) (N' : List Str) (pick : List (Option Nat)) (scope : Scope) : Prop where
 kind : scope.kind = .function
 zny : ∀ y ∈ scope.names, y.2 ≠ .cell
 names : ∀ y ∈ scope.names, y.2 = .local -> scope.names.lookup y.1 = some .local
 free : ∀ y ∈ scope.names, y.2 = .free -> X.env.scope.names.lookup y.1 = some .cell \/ X.env.scope.names.lookup y.1 = some .free
 len : pick.length = N'.length
 ok : zgy X.N N' pick scope = true
theorem zgy.get {N N' : List Str} {pick : List (Option Nat)} {scope : Scope} (h : zgy N N' pick scope = true) {i j : Nat} {x : Str} (h1 : N'[i]? = some x) (h2 : pick[i]? = some (some j)) : N[j]? = some x /\ scope.names.lookup x = some .free := by
 unfold zgy at h
 have hm : (x, some j) ∈ N'.zip pick := by
  refine List.mem_of_getElem? (i := i) ?_
  rw [List.getElem?_zip_eq_some]
  exact ⟨h1, h2⟩
 have q := List.all_eq_true.mp h _ hm
 simp only [Bool.and_eq_true, decide_eq_true_eq] at q
 exact q
theorem zdB.get {pick : List (Option Nat)} {σ : St} {i : Nat} {v : V} (h : (zdB pick σ)[i]? = some (some v)) : ∃ j, pick[i]? = some (some j) /\ σ[j]? = some (some v) := by
 unfold zdB at h
 rw [List.getElem?_map] at h
 cases e : pick[i]? with
 | none => rw [e] at h; cases h
 | some o =>
  rw [e] at h
  cases o with
  | none => simp at h
  | some j =>
   refine ⟨j, rfl, ?_⟩
   simp only [Option.map_some, Option.some.injEq, Option.bind_some] at h
   cases q : σ[j]? with
   | none => rw [q] at h; simp at h
   | some w => rw [q] at h; simp at h; rw [h]
def PF (X : Cx) (ifs : List Expr) (t : TT) : Prop := ∀ (pins : List (Addr × Obj)) (s : Shared) (σ : St) (H : Hp) (Q : Bool -> Hp -> Prop), Inv X pins σ H s -> t σ H Q ->
 wpAny (model X.prog X.w) X.A (forIn ifs true fun c r => if r = true then do let ok <- isTrue c X.env (eval c X.env); pure (ForInStep.yield ok) else pure (ForInStep.yield r)) (TP X pins σ Q) X.xe s
theorem zpJ {X : Cx} : PF X [] (fun _ H Q => Q true H) := fun _ _ _ H _ I h => wpAny_tests_nil ⟨H, I, h⟩
def tLC (pick : List (Option Nat)) (wi : TI) (g : TG) (tc : TT) (te : TE) : TE := fun σ H Q => wi σ H fun J H1 => ∀ D, H1 D = none -> ∃ W : Nat -> Nat -> St -> Hp -> Prop, (∃ m, W 0 m (zdB pick σ) (upd H1 D (.lst []))) /\
 ∀ i m σ H, W i m σ H -> (J.stop i H /\ Q (.ref D) H) \/ (J.go i H /\ ∀ x H', J.yld i H x H' -> g x σ H' fun σ2 H2 => tc σ2 H2 fun b H3 =>
  if b = true then te σ2 H3 fun y H4 => ∃ ys m', H4 D = some (.lst ys) /\ ys.length < sizeLine /\ m' < m /\ W (i + 1) m' σ2 (upd H4 D (.lst (ys ++ [y]))) else ∃ m', m' < m /\ W (i + 1) m' σ2 H3)
section
variable {X : Cx} {pins : List (Addr × Obj)} {σ : St} {H : Hp} {s : Shared} {N' : List Str} {pick : List (Option Nat)} {scope : Scope} {cl : List (Str × Addr)} {C : Addr} {fp : List Addr}
theorem zmI (S : zit X N' pick scope) (I : Inv X pins σ H s) (hfp : ∀ b ∈ fp, zkg X pins H b) (hlt : ∀ b ∈ fp, b < s.heap.objs.size)
  (c1 : ∀ x c, cl.lookup x = some c -> (x, NameKind.free) ∈ scope.names /\ X.env.cells.lookup x = some c) (c2 : ∀ x, (x, NameKind.free) ∈ scope.names -> (cl.lookup x).isSome)
  {h1 : Heap} {m1 : Str -> Option Value} {t' : Nat} (hC : s.heap.objs.size < C) (old : ∀ b o, s.heap.get? b = some o -> h1.get? b = some o) (hns : h1.Ns C m1)
  (hD : h1.get? s.heap.objs.size = some { cls := .type "list", data := .seq #[] 0 }) :
  Inv (cxC X N' scope cl C s H fp) [] (zdB pick σ) (upd H s.heap.objs.size (.lst [])) { s with heap := h1, toks := t' } := by
 have hDn : H s.heap.objs.size = none := I.hok.fresh (Nat.le_refl _)
 have hCn : H C = none := I.hok.fresh (Nat.le_of_lt hC)
 have clt : ∀ x c, cl.lookup x = some c -> c < s.heap.objs.size := fun x c e => by
  obtain ⟨v, q⟩ := I.cell x c (c1 x c e).2
  exact q.lt
 refine ⟨⟨I.ok.mod, S.kind, I.ok.glob, I.ok.blt, Nat.le_of_lt hC, fun x y c e1 e2 => I.ok.inj x y c (c1 x c e1).2 (c1 y c e2).2, fun x hx => ?_, fun x c hf _ => absurd (show false = true from hf) Bool.false_ne_true, I.ok.hd, I.ok.frames, .inl rfl,
  fun b hb => ⟨Nat.ne_of_lt (Nat.lt_trans (hlt b hb) hC), fun x c e => (hfp b hb).2.2.2.2.1 x c (c1 x c e).2⟩, I.bs, Nat.le_trans I.ok.bsz I.sz, fun b o e hb => ?_, fun b hb z => ?_, I.stack, I.zkz⟩,
  rfl, I.bare, Un.laid old (Nat.le_refl _) hDn, ⟨m1, hns, fun i x v e1 e2 e3 => ?_⟩, fun x c e => ?_, ?_, fun x c e => ?_, fun p hp => absurd (show p ∈ ([] : List (Addr × Obj)) from hp) (by simp), I.hok.laid old (Nat.le_refl _) ?_, ?_⟩
 ·exact Option.isSome_iff_exists.mp (c2 x (zfr S.zny hx))
 ·rcases (hfp b hb).2.2.2.1 with z | z
  ·exact I.ok.zqm b o e z
  ·exact absurd (Nat.lt_of_lt_of_le (Heap.lt_size (I.ok.bs b o e).1) z) (Nat.lt_irrefl _)
 ·rcases List.mem_cons.mp (I.zky b z) with q | q
  ·exact (hfp b hb).2.1 q
  ·exact (hfp b hb).2.2.1 q
 ·obtain ⟨j, p1, p2⟩ := zdB.get e2
  obtain ⟨q1, q2⟩ := zgy.get S.ok e1 p1
  obtain ⟨m0, n0, l0⟩ := I.loc
  have hm : (x, NameKind.free) ∈ scope.names := PySem.mem_of_lookup q2
  have hk : X.env.scope.names.lookup x = some .cell \/ X.env.scope.names.lookup x = some .free := S.free _ hm rfl
  obtain ⟨u, r, l⟩ := l0 j x v q1 p2 (.inr hk)
  refine ⟨u, r, .inr ⟨zcQ q2, ?_⟩⟩
  rcases l with ⟨k, _⟩ | ⟨_, c, e, z⟩
  ·have k' : X.env.scope.names.lookup x = some .local := k
   rcases hk with hk | hk <;> (rw [k'] at hk; cases hk)
  ·obtain ⟨c', e'⟩ := Option.isSome_iff_exists.mp (c2 x hm)
   have e'' := (c1 x c' e').2
   rw [e] at e''; cases e''
   obtain ⟨o, z1, z2⟩ := z
   exact ⟨c, e', o, old _ _ z1, z2⟩
 ·obtain ⟨v, o, z1, z2⟩ := I.cell x c (c1 x c e).2
  exact ⟨v, o, old _ _ z1, z2⟩
 ·show upd H s.heap.objs.size (.lst []) C = none
  rw [zbo (Nat.ne_of_gt hC)]; exact hCn
 ·show upd H s.heap.objs.size (.lst []) c = none
  rw [zbo (Nat.ne_of_lt (clt x c e))]; exact I.zgm x c (c1 x c e).2
 ·exact ⟨Nat.zero_le _, [], 0, .nil, hD⟩
 ·show (zdB pick σ).length = N'.length
  unfold zdB
  rw [List.length_map]; exact S.len
theorem zjY {σ' : St} {H' : Hp} {s' : Shared} {oC : Obj} (I : Inv X pins σ H s) (hfp : ∀ b ∈ fp, zkg X pins H b) (hC : s.heap.objs.size < C)
  (I' : Inv (cxC X N' scope cl C s H fp) [] σ' H' s') (hoC : s'.heap.get? C = some oC) : Inv X (pins ++ [(C, oC)]) σ H' s' := by
 have J : Inv X pins σ H' s' := I.zrK (ch := fp) I'.os I'.base I'.hok I'.bare fun b hb => ⟨(hfp b hb).2.2.2.1, (hfp b hb).2.1, (hfp b hb).2.2.2.2.1, (hfp b hb).2.2.2.2.2⟩
 refine J.ziE fun p hp => (List.mem_append.mp hp).elim (fun z => J.pin p (List.mem_append_right _ z)) fun z => ?_
 obtain rfl : p = (C, oC) := List.mem_singleton.mp z
 refine ⟨hoC, I'.free, Nat.ne_of_gt (Nat.lt_trans I.lt hC), I.zr9 (Nat.le_of_lt hC), fun v hv => ?_⟩
 obtain ⟨m, ⟨o, es, ep, ho, hd, _⟩, _⟩ := I'.loc
 have ho' : s'.heap.get? C = some o := ho
 rw [hoC] at ho'; cases ho'
 rw [hd] at hv; cases hv
theorem zln {σ' : St} {H' : Hp} {s' : Shared} {oC : Obj} {h' : Heap} (I : Inv X pins σ H s) (hC : s.heap.objs.size < C) (J : Inv X (pins ++ [(C, oC)]) σ' H' s') (hs : Heap.SameBut C s'.heap h') : Inv X pins σ' H' { s' with heap := h' } := by
 have J' := J.zev
 have hp := J.pin (C, oC) (List.mem_append_right _ (List.mem_append_right _ (List.mem_singleton.mpr rfl)))
 have lt : ∀ c, c < s.heap.objs.size -> c ≠ C := fun c h => Nat.ne_of_lt (Nat.lt_trans h hC)
 refine J'.turned (t' := s'.toks) (it := C) (fun b o hb e => hs.extBut b o hb e) hp.2.1 hp.2.2.1 (.inr (Nat.le_trans I.sz (Nat.le_of_lt hC))) (fun x c e z => ?_) (fun p hq z => ?_)
 ·obtain ⟨v, q⟩ := I.cell x c e
  exact lt c q.lt z
 ·exact lt p.1 (Heap.lt_size (I.pin p hq).1) z
end
section
variable {X : Cx} {N' : List Str} {pick : List (Option Nat)} {scope : Scope} {elt iter tg : Expr} {ifs : List Expr} {pos : Pos} {wi : TI} {g : TG} {tc : TT} {te : TE}
theorem zox {pins : List (Addr × Obj)} {σ : St} {H : Hp} {s : Shared} {it C : Addr} {fp : List Addr} {tn : Nat -> Heap -> Prop} {J : It} {cl : List (Str × Addr)} {W : Nat -> Nat -> St -> Hp -> Prop} {Q : V -> Hp -> Prop} {R : Result -> Shared -> Prop} {D : Addr}
  (hc : X.calm = true) (hg : PG (cxC X N' scope cl C s H fp) tg g) (hf : PF (cxC X N' scope cl C s H fp) ifs tc) (he : PE (cxC X N' scope cl C s H fp) elt te)
  (T : Turn X.prog X.w X.K tg J fp it tn) (hfp : ∀ b ∈ fp, zkg X pins H b) (hstat : ∀ b ∈ fp, b ≠ C /\ b ∉ frs X.stack /\ ∀ x c, cl.lookup x = some c -> c ≠ b)
  (turn : ∀ i m σ H, W i m σ H -> (J.stop i H /\ Q (.ref D) H) \/ (J.go i H /\ ∀ x H', J.yld i H x H' -> g x σ H' fun σ2 H2 => tc σ2 H2 fun b H3 =>
   if b = true then te σ2 H3 fun y H4 => ∃ ys m', H4 D = some (.lst ys) /\ ys.length < sizeLine /\ m' < m /\ W (i + 1) m' σ2 (upd H4 D (.lst (ys ++ [y]))) else ∃ m', m' < m /\ W (i + 1) m' σ2 H3))
  (fin : ∀ σ' H' s', Inv (cxC X N' scope cl C s H fp) [] σ' H' s' -> Q (.ref D) H' -> R (.ok .next) s')
  {m0 : Nat} {σ0 : St} {H0 : Hp} {s0 : Shared} (I0 : Inv (cxC X N' scope cl C s H fp) [] σ0 H0 s0) (t0 : tn 0 s0.heap) (f0 : ∀ b ∈ fp, H0 b = none) (w0 : W 0 m0 σ0 H0) :
  codeAny (model X.prog X.w) X.A (.compLoop (.ListComp elt [⟨tg, iter, ifs, 0⟩] scope pos) 0 (.ref it) (.ref D) (compEnvC scope cl C X.env)) R s0 := by
 have stat : ∀ {H' : Hp}, (∀ b ∈ fp, H' b = none) -> ∀ b ∈ fp, zkg (cxC X N' scope cl C s H fp) [] H' b := fun hn b hb => ⟨hn b hb, (hstat b hb).1, (hstat b hb).2.1, .inl hb, (hstat b hb).2.2, fun p hp => absurd (show p ∈ ([] : List (Addr × Obj)) from hp) (by simp)⟩
 refine codeAny_loop rfl (fun n s' => ∃ i σ' H', Inv (cxC X N' scope cl C s H fp) [] σ' H' s' /\ tn i s'.heap /\ (∀ b ∈ fp, H' b = none) /\ W i n σ' H') (fun n s3 hI => ?_) m0 ⟨0, σ0, H0, I0, t0, f0, w0⟩
 obtain ⟨i, σ3, H3, I3, st3, fr3, w3⟩ := hI
 show wpAny _ X.A ((compTurn (.ListComp elt [⟨tg, iter, ifs, 0⟩] scope pos) 0 (.ref it) (.ref D) (compEnvC scope cl C X.env)).onRaise (fun x => do noteFrame x (compEnvC scope cl C X.env); theTreesLotGoes x)) _ _ s3
 refine wpAny_noted ?_
 rw [compTurn_list]
 refine wpAny_bind (wpAny_standAt (wpAny_bind ?_))
 rcases turn i n σ3 H3 w3 with ⟨stop, qn⟩ | ⟨go, step⟩
 ·refine thn (T.done (cxC X N' scope cl C s H fp) rfl rfl rfl hc i [] s3 σ3 H3 _ I3 (stat fr3) st3 stop) fun r s4 ⟨hr, I4⟩ => ?_
  subst hr
  exact wpAny_pure (fin σ3 H3 s4 I4 qn)
 ·refine thn (T.item (cxC X N' scope cl C s H fp) rfl rfl rfl hc i [] s3 σ3 H3 _ I3 (stat fr3) st3 go) fun r s4 ⟨u, hr, h4⟩ => ?_
  subst hr
  refine wpAny_bind (thn h4 fun _ s5 ⟨x, H5, I5, r5, y5, st5, fr5⟩ => ?_)
  have I5' := I5.pinned (stat fr5) (T.obj _ _ st5)
  refine wpAny_bind (wpAny_mono (hg _ s5 σ3 H5 x u _ I5' r5 (step x H5 y5)) (fun _ s6 ⟨σ6, H6, I6, q6⟩ => ?_) fun _ _ z => False.elim z)
  refine wpAny_bind (wpAny_mono (hf _ s6 σ6 H6 _ I6 q6) (fun ok s7 ⟨H7, I7, q7⟩ => ?_) fun _ _ z => False.elim z)
  have back : ∀ {H8 : Hp} {s8 : Shared}, Inv (cxC X N' scope cl C s H fp) ([] ++ zhL fp s5.heap) σ6 H8 s8 -> (∃ m', m' < n /\ W (i + 1) m' σ6 H8) -> ∃ m, m < n /\ ∃ i σ' H', Inv (cxC X N' scope cl C s H fp) [] σ' H' s8 /\ tn i s8.heap /\ (∀ b ∈ fp, H' b = none) /\ W i m σ' H' := fun {H8 s8} I8 ⟨m', hm, w8⟩ => by
   refine ⟨m', hm, i + 1, σ6, H8, I8.zev, T.keep _ _ _ st5 fun b hb o e => (I8.pin (b, o) (List.mem_append_right _ (List.mem_append_right _ (zd7 hb e)))).1, fun b hb => ?_, w8⟩
   obtain ⟨o, e, d⟩ := T.obj _ _ st5 b hb
   exact (I8.pin (b, o) (List.mem_append_right _ (List.mem_append_right _ (zd7 hb e)))).2.1
  cases ok with
  | false =>
   rw [if_neg Bool.false_ne_true] at q7
   exact wpAny_pure ⟨rfl, back I7 q7⟩
  | true =>
   rw [if_pos rfl] at q7
   refine wpAny_bind (wpAny_bind (wpAny_mono (he _ s7 σ6 H7 _ I7 q7) (fun uy s8 ⟨y, H8, I8, r8, ys, m', e8, z8, hm, w8⟩ => ?_) fun _ _ z => False.elim z))
   refine wpAny_bind (wpAny_mono (zh1 (X := cxC X N' scope cl C s H fp) _ s8 σ6 H8 (.ref D) [y] (.ref D) [uy] (fun _ H9 => W (i + 1) m' σ6 H9) I8 rfl (.cons r8 .nil) ⟨D, ys, y, rfl, rfl, e8, z8, w8⟩) (fun _ s9 ⟨_, H9, I9, _, q9⟩ => ?_) fun _ _ z => False.elim z)
   exact wpAny_pure (wpAny_pure ⟨rfl, back I9 ⟨m', hm, q9⟩⟩)
theorem zmE {pins : List (Addr × Obj)} {σ : St} {H : Hp} {s : Shared} {it : Addr} {fp : List Addr} {tn : Nat -> Heap -> Prop} {J : It} {cl : List (Str × Addr)} {Q : V -> Hp -> Prop} {E : Value -> Shared -> Prop} {RR : Value -> Addr -> Result -> Shared -> Prop}
  (S : zit X N' pick scope) (hc : X.calm = true) (hg : ∀ cl C s H fp, PG (cxC X N' scope cl C s H fp) tg g) (hf : ∀ cl C s H fp, PF (cxC X N' scope cl C s H fp) ifs tc) (he : ∀ cl C s H fp, PE (cxC X N' scope cl C s H fp) elt te)
  (c1 : ∀ x c, cl.lookup x = some c -> (x, NameKind.free) ∈ scope.names /\ X.env.cells.lookup x = some c) (c2 : ∀ x, (x, NameKind.free) ∈ scope.names -> (cl.lookup x).isSome)
  (I : Inv X pins σ H s) (T : Turn X.prog X.w X.K tg J fp it tn) (t0 : tn 0 s.heap) (hfp : ∀ b ∈ fp, zkg X pins H b)
  (rd : ∀ D, H D = none -> ∃ W : Nat -> Nat -> St -> Hp -> Prop, (∃ m, W 0 m (zdB pick σ) (upd H D (.lst []))) /\
   ∀ i m σ H, W i m σ H -> (J.stop i H /\ Q (.ref D) H) \/ (J.go i H /\ ∀ x H', J.yld i H x H' -> g x σ H' fun σ2 H2 => tc σ2 H2 fun b H3 =>
    if b = true then te σ2 H3 fun y H4 => ∃ ys m', H4 D = some (.lst ys) /\ ys.length < sizeLine /\ m' < m /\ W (i + 1) m' σ2 (upd H4 D (.lst (ys ++ [y]))) else ∃ m', m' < m /\ W (i + 1) m' σ2 H3))
  (fin : ∀ C D oC H' s', s.heap.objs.size < C -> Inv X (pins ++ [(C, oC)]) σ H' s' -> s'.heap.get? C = some oC -> (∃ m, s'.heap.Ns C m) -> Q (.ref D) H' -> RR (.ref D) C (.ok .next) s') :
  wpAny (model X.prog X.w) X.A (newList []) (fun acc s₃ => wpAny (model X.prog X.w) X.A (newFunctionEnv scope X.env.globals cl [] X.env.qual none .none (some X.env)) (fun cenv s₄ =>
   codeAny (model X.prog X.w) X.A (.compStart (.ListComp elt [⟨tg, iter, ifs, 0⟩] scope pos) 0 (.ref it) acc { cenv with scope := relabel scope X.env }) (RR acc cenv.locals) s₄) E s₃) E s := by
 refine wpAny_newObj_type (wpAny_newFunctionEnv S.zny (by intro y hy; simp at hy) (fun h₁ hns₁ hsb₁ => ?_) S.kind)
 dsimp only at hns₁ hsb₁ ⊢
 generalize hH2 : s.heap.push { cls := .type "list", dict := none, data := .seq ([] : List Value).toArray } = H2 at hns₁ hsb₁ ⊢
 have hC : H2.objs.size = s.heap.objs.size + 1 := by rw [<- hH2, Heap.size_push]
 have hlt : s.heap.objs.size < H2.objs.size := by rw [hC]; exact Nat.lt_succ_self _
 have old : ∀ b o, s.heap.get? b = some o -> h₁.get? b = some o := fun b o e => hsb₁.extBut b o (Nat.ne_of_lt (Nat.lt_trans (Heap.lt_size e) hlt)) (Heap.get?_push_of_some _ (hH2 ▸ Heap.get?_push_of_some _ e))
 have hacc : h₁.get? s.heap.objs.size = some { cls := .type "list", data := .seq #[] 0 } := hsb₁.extBut _ _ (Nat.ne_of_lt hlt) (Heap.get?_push_of_some _ (hH2 ▸ Heap.get?_push_size _ rfl))
 have hflt : ∀ b ∈ fp, b < s.heap.objs.size := fun b hb => by
  obtain ⟨o, e, _⟩ := T.obj _ _ t0 b hb
  exact Heap.lt_size e
 have hDn : H s.heap.objs.size = none := I.hok.fresh (Nat.le_refl _)
 obtain ⟨W, ⟨m0, w0⟩, turn⟩ := rd s.heap.objs.size hDn
 have I0 := zmI (t' := s.toks + ([] : List (Str × Value)).length) S I hfp hflt c1 c2 hlt old hns₁ hacc
 have t1 : tn 0 h₁ := T.keep _ _ _ t0 fun b _ o e => old b o e
 have hst : ∀ b ∈ fp, b ≠ H2.objs.size /\ b ∉ frs X.stack /\ ∀ x c, cl.lookup x = some c -> c ≠ b := fun b hb => I0.ok.exf b hb |> fun q => ⟨q.1, I0.ok.zqF b hb, q.2⟩
 have loop : codeAny (model X.prog X.w) X.A (.compLoop (.ListComp elt [⟨tg, iter, ifs, 0⟩] scope pos) 0 (.ref it) (.ref s.heap.objs.size) (compEnvC scope cl H2.objs.size X.env)) (RR (.ref s.heap.objs.size) H2.objs.size) { s with heap := h₁, toks := s.toks + ([] : List (Str × Value)).length } := by
  refine zox (σ := σ) hc (hg _ _ _ _ _) (hf _ _ _ _ _) (he _ _ _ _ _) T hfp hst turn (fun σ' H' s' I' q => ?_) I0 t1 (fun b hb => ?_) w0
  ·obtain ⟨m, hn, _⟩ := I'.loc
   have hn' : s'.heap.Ns H2.objs.size m := hn
   obtain ⟨oC, es, ep, ho, hr⟩ := id hn'
   exact fin _ _ oC H' s' hlt (zjY I hfp hlt I' ho) ho ⟨m, hn'⟩ q
  ·show upd H s.heap.objs.size (.lst []) b = none
   rw [zbo (Nat.ne_of_lt (hflt b hb))]
   exact (hfp b hb).1
 exact codeAny_compStart_list loop (T.self _ 0 _ _ _ t1 loop)
theorem zrm (S : zit X N' pick scope) (hc : X.calm = true) (hi : PI X tg iter wi) (hg : ∀ cl C s H fp, PG (cxC X N' scope cl C s H fp) tg g) (hf : ∀ cl C s H fp, PF (cxC X N' scope cl C s H fp) ifs tc) (he : ∀ cl C s H fp, PE (cxC X N' scope cl C s H fp) elt te)
  (hs : ∀ x, foldedSetIterable iter X.env x = pure x := by intro _; rfl) : PE X (.ListComp elt [⟨tg, iter, ifs, 0⟩] scope pos) (tLC pick wi g tc te) := by
 intro pins s σ H Q I h
 obtain ⟨cl, hclos, c1, c2⟩ := zj9 (scope := scope) (env := X.env) fun y hy hk => I.ok.has y.1 (S.free y hy hk)
 rw [eval_ListComp]
 refine wpAny_comprehension_free (use := none) rfl hs hclos S.kind S.names (thn (hi pins s σ H _ I h) fun v s1 h1 => thn h1 fun itv s2 h2 => ?_)
 obtain ⟨it, fp, tn, J, H2, e, I2, T, st2, f2, rd⟩ := h2
 subst e
 refine zmE (RR := fun acc C => compPost (model X.prog X.w) X.A X.xe none (EP X pins σ Q) acc C) S hc hg hf he c1 c2 I2 T st2 f2 rd fun C D oC H' s' hC J' ho hn q => ?_
 obtain ⟨m, hn⟩ := hn
 exact ⟨m, hn, fun h' hs' => ⟨.ref D, H', zln I2 hC J' hs', rfl, q⟩⟩
end
end L2
namespace L3
open PySem PySem.Spec L2
open PyProof.Rows hiding St
inductive D where
 | non | bl (b : Bool) | int (i : Int) | str (x : Str) | tup (ds : List D) | rol (ds : List D) | ref (a : Addr)
def SqF (K : PySem.W.Frag) (H : Hp) (a : Addr) (xs : List V) : Prop :=
 (∃ o, H a = some (.frz o (.lst xs))) \/
  ∃ (o : Obj) (its : Array Value) (n : Nat), K.lookup a = some o /\ o.cls = .type "list" /\ o.dict = none /\ o.data = .seq its n /\ its.size <= sizeLine /\ Vals xs its.toList
theorem SqF.sq {K : PySem.W.Frag} {H : Hp} {a : Addr} {xs : List V} (h : SqF K H a xs) : SqL K H a xs := by
 rcases h with h | h
 ·exact .inl (.inr h)
 ·exact .inr h
mutual
noncomputable def zau (K : PySem.W.Frag) (H : Hp) : D -> V -> Prop
 | .non, v => v = .non
 | .bl b, v => v = .bl b
 | .int i, v => v = .int i
 | .str x, v => v = .str x
 | .tup ds, v => ∃ a xs, v = .ref a /\ SqT K H a xs /\ zak K H ds xs
 | .rol ds, v => ∃ a xs, v = .ref a /\ SqF K H a xs /\ zak K H ds xs
 | .ref a, v => v = .ref a
noncomputable def zak (K : PySem.W.Frag) (H : Hp) : List D -> List V -> Prop
 | [], xs => xs = []
 | d :: ds, xs => ∃ x r, xs = x :: r /\ zau K H d x /\ zak K H ds r
end
structure Ext (H H' : Hp) : Prop where
 tup : ∀ b xs, H b = some (.tup xs) -> H' b = some (.tup xs)
 frz : ∀ b o u, H b = some (.frz o u) -> H' b = some (.frz o u)
theorem Ext.refl (H : Hp) : Ext H H := ⟨fun _ _ h => h, fun _ _ _ h => h⟩
theorem Ext.trans {H H1 H2 : Hp} (a : Ext H H1) (b : Ext H1 H2) : Ext H H2 := ⟨fun c xs h => b.tup c xs (a.tup c xs h), fun c o u h => b.frz c o u (a.frz c o u h)⟩
theorem Ext.new {H : Hp} {p : Addr} (h : H p = none) (o : HO) : Ext H (upd H p o) :=
 ⟨fun b xs q => by rw [zbo (zbP q h)]; exact q, fun b ob u q => by rw [zbo (zbP q h)]; exact q⟩
theorem Ext.lst {H : Hp} {p : Addr} {xs : List V} (h : H p = some (.lst xs)) (o : HO) : Ext H (upd H p o) :=
 ⟨fun b ys q => by rw [zbo (zqp q h (by intro z; cases z))]; exact q, fun b ob u q => by rw [zbo (zqp q h (by intro z; cases z))]; exact q⟩
theorem Ext.sqt {K : PySem.W.Frag} {H H' : Hp} {a : Addr} {xs : List V} (e : Ext H H') (h : SqT K H a xs) : SqT K H' a xs := by
 rcases h with (h | ⟨o, h⟩) | h
 ·exact .inl (.inl (e.tup _ _ h))
 ·exact .inl (.inr ⟨o, e.frz _ _ _ h⟩)
 ·exact .inr h
theorem Ext.sqf {K : PySem.W.Frag} {H H' : Hp} {a : Addr} {xs : List V} (e : Ext H H') (h : SqF K H a xs) : SqF K H' a xs := by
 rcases h with ⟨o, h⟩ | h
 ·exact .inl ⟨o, e.frz _ _ _ h⟩
 ·exact .inr h
section
variable {K : PySem.W.Frag} {H H' : Hp}
mutual
theorem zau.ext (e : Ext H H') : ∀ (d : D) {v : V}, zau K H d v -> zau K H' d v
 | .non, v, h => by simpa only [zau] using h
 | .bl b, v, h => by simpa only [zau] using h
 | .int i, v, h => by simpa only [zau] using h
 | .str x, v, h => by simpa only [zau] using h
 | .ref a, v, h => by simpa only [zau] using h
 | .tup ds, v, h => by
  simp only [zau] at h ⊢
  obtain ⟨a, xs, h1, h2, h3⟩ := h
  exact ⟨a, xs, h1, e.sqt h2, zak.ext e ds h3⟩
 | .rol ds, v, h => by
  simp only [zau] at h ⊢
  obtain ⟨a, xs, h1, h2, h3⟩ := h
  exact ⟨a, xs, h1, e.sqf h2, zak.ext e ds h3⟩
theorem zak.ext (e : Ext H H') : ∀ (ds : List D) {xs : List V}, zak K H ds xs -> zak K H' ds xs
 | [], xs, h => by simpa only [zak] using h
 | d :: ds, xs, h => by
  simp only [zak] at h ⊢
  obtain ⟨x, r, h1, h2, h3⟩ := h
  exact ⟨x, r, h1, zau.ext e d h2, zak.ext e ds h3⟩
end
theorem zak.length : ∀ {ds : List D} {xs : List V}, zak K H ds xs -> ds.length = xs.length
 | [], xs, h => by simp only [zak] at h; subst h; rfl
 | d :: ds, xs, h => by
  simp only [zak] at h
  obtain ⟨x, r, h1, _, h3⟩ := h
  subst h1
  simp [zak.length h3]
theorem zak.get : ∀ {ds : List D} {xs : List V} {i : Nat} {d : D}, zak K H ds xs -> ds[i]? = some d -> ∃ x, xs[i]? = some x /\ zau K H d x
 | [], _, i, d, _, e => by simp at e
 | c :: ds, xs, i, d, h, e => by
  simp only [zak] at h
  obtain ⟨x, r, h1, h2, h3⟩ := h
  subst h1
  cases i with
  | zero => simp at e; subst e; exact ⟨x, rfl, h2⟩
  | succ i =>
   obtain ⟨y, e1, e2⟩ := zak.get (i := i) h3 (by simpa using e)
   exact ⟨y, by simpa using e1, e2⟩
theorem zak.append : ∀ {ds es : List D} {xs ys : List V}, zak K H ds xs -> zak K H es ys -> zak K H (ds ++ es) (xs ++ ys)
 | [], es, xs, ys, h, h' => by simp only [zak] at h; subst h; simpa using h'
 | d :: ds, es, xs, ys, h, h' => by
  simp only [zak] at h
  obtain ⟨x, r, h1, h2, h3⟩ := h
  subst h1
  show zak K H (d :: (ds ++ es)) (x :: (r ++ ys))
  simp only [zak]
  exact ⟨x, r ++ ys, rfl, h2, zak.append h3 h'⟩
theorem zak.nil : zak K H [] [] := by simp only [zak]
theorem zak.cons {d : D} {ds : List D} {x : V} {xs : List V} (h : zau K H d x) (h' : zak K H ds xs) : zak K H (d :: ds) (x :: xs) := by
 simp only [zak]; exact ⟨x, xs, rfl, h, h'⟩
theorem zak.snoc {d : D} {ds : List D} {x : V} {xs : List V} (h' : zak K H ds xs) (h : zau K H d x) : zak K H (ds ++ [d]) (xs ++ [x]) := h'.append (.cons h .nil)
theorem zak.ints : ∀ {ns : List Int} {xs : List V}, zak K H (ns.map D.int) xs -> xs = ns.map V.int
 | [], xs, h => by simpa only [List.map_nil, zak] using h
 | n :: ns, xs, h => by
  rw [List.map_cons] at h
  simp only [zak, zau] at h
  obtain ⟨x, r, h1, h2, h3⟩ := h
  subst h1 h2
  rw [List.map_cons, zak.ints h3]
theorem zak.ziM : ∀ (ns : List Int), zak K H (ns.map D.int) (ns.map V.int)
 | [] => .nil
 | n :: ns => .cons (by simp only [zau]) (zak.ziM ns)
theorem zak.bools : ∀ {ns : List Bool} {xs : List V}, zak K H (ns.map D.bl) xs -> xs = ns.map V.bl
 | [], xs, h => by simpa only [List.map_nil, zak] using h
 | n :: ns, xs, h => by
  rw [List.map_cons] at h
  simp only [zak, zau] at h
  obtain ⟨x, r, h1, h2, h3⟩ := h
  subst h1 h2
  rw [List.map_cons, zak.bools h3]
end
inductive O where
 | lst (ds : List D)
 | dct (kvs : List (Key × D))
abbrev SS := Addr -> Option O
def zm3 (K : PySem.W.Frag) (H : Hp) : List (Key × D) -> List (Key × V) -> Prop := Paired fun p q => p.1 = q.1 /\ zau K H p.2 q.2
noncomputable def zoX (K : PySem.W.Frag) (H : Hp) (a : Addr) : O -> Prop
 | .lst ds => ∃ xs, H a = some (.lst xs) /\ zak K H ds xs
 | .dct kvs => ∃ vs, H a = some (.dK vs) /\ zm3 K H kvs vs
def zbV (K : PySem.W.Frag) (H : Hp) (S : SS) : Prop := ∀ a o, S a = some o -> zoX K H a o
noncomputable def ups (S : SS) (a : Addr) (o : O) : SS := fun b => if b = a then some o else S b
theorem zc0 {S : SS} {a : Addr} {o : O} : ups S a o a = some o := by unfold ups; rw [if_pos rfl]
theorem zeu {S : SS} {a b : Addr} {o : O} (h : b ≠ a) : ups S a o b = S b := by unfold ups; rw [if_neg h]
def Sx (S S' : SS) : Prop := ∀ b o, S b = some o -> S' b = some o
theorem Sx.refl (S : SS) : Sx S S := fun _ _ h => h
theorem Sx.trans {S S1 S2 : SS} (a : Sx S S1) (b : Sx S1 S2) : Sx S S2 := fun c o h => b c o (a c o h)
theorem Sx.new {S : SS} {p : Addr} (h : S p = none) (o : O) : Sx S (ups S p o) := fun b u q => by
 rw [zeu (by intro z; subst z; rw [h] at q; cases q)]; exact q
theorem Sx.none {S S' : SS} (e : Sx S S') {p : Addr} (h : S' p = Option.none) : S p = Option.none := by
 cases q : S p with
 | none => rfl
 | some o => rw [e p o q] at h; cases h
section
variable {K : PySem.W.Frag} {H H' : Hp} {S : SS}
theorem zoX.has {a : Addr} {o : O} (h : zoX K H a o) : H a ≠ none := by
 cases o with
 | lst ds => obtain ⟨xs, h, _⟩ := h; rw [h]; simp
 | dct kvs => obtain ⟨xs, h, _⟩ := h; rw [h]; simp
theorem zbV.none (r : zbV K H S) {p : Addr} (h : H p = Option.none) : S p = Option.none := by
 cases q : S p with
 | none => rfl
 | some o => exact absurd h (r p o q).has
theorem zm3.ext (e : Ext H H') {kvs : List (Key × D)} {vs : List (Key × V)} (h : zm3 K H kvs vs) : zm3 K H' kvs vs :=
 Paired.zrx h fun p q z => ⟨z.1, zau.ext e p.2 z.2⟩
theorem zoX.keep {a : Addr} {o : O} (e : Ext H H') (k : ∀ u, H a = some u -> H' a = some u) (h : zoX K H a o) : zoX K H' a o := by
 cases o with
 | lst ds => obtain ⟨xs, h1, h2⟩ := h; exact ⟨xs, k _ h1, zak.ext e ds h2⟩
 | dct kvs => obtain ⟨xs, h1, h2⟩ := h; exact ⟨xs, k _ h1, h2.ext e⟩
theorem zbV.keep (e : Ext H H') (k : ∀ a u o, S a = some o -> H a = some u -> H' a = some u) (r : zbV K H S) : zbV K H' S := fun a o h => (r a o h).keep e fun u q => k a u o h q
theorem zbV.new {p : Addr} {u : HO} (hp : H p = Option.none) (r : zbV K H S) : zbV K (upd H p u) S :=
 r.keep (Ext.new hp u) fun a v o _ q => by rw [zbo (zbP q hp)]; exact q
theorem zbV.ups {p : Addr} {u : HO} {o : O} (e : Ext H (upd H p u)) (hn : zoX K (upd H p u) p o) (r : zbV K H S) : zbV K (upd H p u) (ups S p o) := fun a o' h => by
 by_cases ha : a = p
 ·subst ha; rw [zc0] at h; cases h; exact hn
 ·rw [zeu ha] at h
  exact (r a o' h).keep e fun v q => by rw [zbo ha]; exact q
end
abbrev StD := List (Option D)
def zb6 (K : PySem.W.Frag) (H : Hp) (δ : StD) (σ : St) : Prop := δ.length = σ.length /\ ∀ (i : Nat) (d : D), δ[i]? = some (some d) -> ∃ v, σ[i]? = some (some v) /\ zau K H d v
theorem zb6.ext {K : PySem.W.Frag} {H H' : Hp} {δ : StD} {σ : St} (e : Ext H H') (r : zb6 K H δ σ) : zb6 K H' δ σ := ⟨r.1, fun i d h => by
 obtain ⟨v, h1, h2⟩ := r.2 i d h
 exact ⟨v, h1, zau.ext e d h2⟩⟩
theorem zb6.set {K : PySem.W.Frag} {H : Hp} {δ : StD} {σ : St} (i : Nat) {d : D} {v : V} (r : zb6 K H δ σ) (h : zau K H d v) : zb6 K H (δ.set i (some d)) (σ.set i (some v)) := by
 refine ⟨by rw [List.length_set, List.length_set]; exact r.1, fun j c hc => ?_⟩
 rw [List.getElem?_set] at hc ⊢
 by_cases hj : i = j
 ·subst hj
  rw [if_pos rfl] at hc ⊢
  by_cases hl : i < δ.length
  ·rw [if_pos hl] at hc
   rw [if_pos (by rw [<- r.1]; exact hl)]
   cases hc
   exact ⟨v, rfl, h⟩
  ·rw [if_neg hl] at hc; cases hc
 ·rw [if_neg hj] at hc ⊢
  exact r.2 j c hc
abbrev DK := D -> SS -> Prop
abbrev TDE := StD -> SS -> DK -> Prop
abbrev TDT := StD -> SS -> (Bool -> SS -> Prop) -> Prop
abbrev TDA := StD -> SS -> (List D -> SS -> Prop) -> Prop
def MoE (t : TDE) : Prop := ∀ δ S (Q Q' : DK), (∀ d S', Q d S' -> Q' d S') -> t δ S Q -> t δ S Q'
def MoT (t : TDT) : Prop := ∀ δ S (Q Q' : Bool -> SS -> Prop), (∀ d S', Q d S' -> Q' d S') -> t δ S Q -> t δ S Q'
def MoA (t : TDA) : Prop := ∀ δ S (Q Q' : List D -> SS -> Prop), (∀ d S', Q d S' -> Q' d S') -> t δ S Q -> t δ S Q'
noncomputable def dnK (K : PySem.W.Frag) (H : Hp) (Q : VK) : DK := fun d S' => ∀ v H', zau K H' d v -> Ext H H' -> zbV K H' S' -> Q v H'
def dnB (K : PySem.W.Frag) (H : Hp) (Q : Bool -> Hp -> Prop) : Bool -> SS -> Prop := fun b S' => ∀ H', Ext H H' -> zbV K H' S' -> Q b H'
def dnL (K : PySem.W.Frag) (H : Hp) (Q : List V -> Hp -> Prop) : List D -> SS -> Prop := fun ds S' => ∀ vs H', zak K H' ds vs -> Ext H H' -> zbV K H' S' -> Q vs H'
def dnS (K : PySem.W.Frag) (H : Hp) (Q : St -> Hp -> Prop) : StD -> SS -> Prop := fun δ S' => ∀ σ H', zb6 K H' δ σ -> Ext H H' -> zbV K H' S' -> Q σ H'
theorem dnK.ext {K : PySem.W.Frag} {H H' : Hp} {Q : VK} (e : Ext H H') {d : D} {S : SS} (h : dnK K H Q d S) : dnK K H' Q d S := fun v H2 r x q => h v H2 r (e.trans x) q
theorem dnB.ext {K : PySem.W.Frag} {H H' : Hp} {Q : Bool -> Hp -> Prop} (e : Ext H H') {d : Bool} {S : SS} (h : dnB K H Q d S) : dnB K H' Q d S := fun H2 x q => h H2 (e.trans x) q
theorem dnS.ext {K : PySem.W.Frag} {H H' : Hp} {Q : St -> Hp -> Prop} (e : Ext H H') {d : StD} {S : SS} (h : dnS K H Q d S) : dnS K H' Q d S := fun v H2 r x q => h v H2 r (e.trans x) q
def upE (K : PySem.W.Frag) (t : TDE) : TE := fun σ H Q => ∃ δ S, zb6 K H δ σ /\ zbV K H S /\ t δ S (dnK K H Q)
def upT (K : PySem.W.Frag) (t : TDT) : TT := fun σ H Q => ∃ δ S, zb6 K H δ σ /\ zbV K H S /\ t δ S (dnB K H Q)
def upA (K : PySem.W.Frag) (t : TDA) : TA := fun σ H Q => ∃ δ S, zb6 K H δ σ /\ zbV K H S /\ t δ S (dnL K H Q)
structure PD (X : Cx) (e : Expr) (t : TDE) : Prop where
 mo : MoE t
 pe : PE X e (upE X.K t)
structure PDT (X : Cx) (e : Expr) (t : TDT) : Prop where
 mo : MoT t
 pt : PT X e (upT X.K t)
structure PDA (X : Cx) (es : List Expr) (t : TDA) : Prop where
 mo : MoA t
 pa : PA X es (upA X.K t)
theorem PE.imp {X : Cx} {e : Expr} {t t' : TE} (h : PE X e t) (hi : ∀ σ H Q, t' σ H Q -> t σ H Q) : PE X e t' := fun pins s σ H Q I q => h pins s σ H Q I (hi σ H Q q)
theorem PT.imp {X : Cx} {e : Expr} {t t' : TT} (h : PT X e t) (hi : ∀ σ H Q, t' σ H Q -> t σ H Q) : PT X e t' := fun pins s σ H Q I q => h pins s σ H Q I (hi σ H Q q)
theorem PA.imp {X : Cx} {e : List Expr} {t t' : TA} (h : PA X e t) (hi : ∀ σ H Q, t' σ H Q -> t σ H Q) : PA X e t' := fun pos pins s σ H Q I q => h pos pins s σ H Q I (hi σ H Q q)
theorem PS.imp {X : Cx} {e : Stmt} {t t' : TS} (h : PS X e t) (hi : ∀ D σ H, t' D σ H -> t D σ H) : PS X e t' := fun pins s σ H Q I q => h pins s σ H Q I (hi Q σ H q)
theorem PSs.imp {X : Cx} {e : List Stmt} {t t' : TS} (h : PSs X e t) (hi : ∀ D σ H, t' D σ H -> t D σ H) : PSs X e t' := fun pins s σ H Q I q => h pins s σ H Q I (hi Q σ H q)
section
variable {X : Cx} {K : PySem.W.Frag}
theorem upE.go {t : TDE} {σ : St} {H : Hp} {Q : VK} {δ : StD} {S : SS} {R : DK} (mo : MoE t) (r1 : zb6 K H δ σ) (r2 : zbV K H S) (h : t δ S R) (k : ∀ d S' v H', R d S' -> zau K H' d v -> Ext H H' -> zbV K H' S' -> Q v H') : upE K t σ H Q :=
 ⟨δ, S, r1, r2, mo δ S _ _ (fun d S' q v H' a b c => k d S' v H' q a b c) h⟩
theorem upT.go {t : TDT} {σ : St} {H : Hp} {Q : Bool -> Hp -> Prop} {δ : StD} {S : SS} {R : Bool -> SS -> Prop} (mo : MoT t) (r1 : zb6 K H δ σ) (r2 : zbV K H S) (h : t δ S R) (k : ∀ d S' H', R d S' -> Ext H H' -> zbV K H' S' -> Q d H') : upT K t σ H Q :=
 ⟨δ, S, r1, r2, mo δ S _ _ (fun d S' q H' b c => k d S' H' q b c) h⟩
theorem upA.go {t : TDA} {σ : St} {H : Hp} {Q : List V -> Hp -> Prop} {δ : StD} {S : SS} {R : List D -> SS -> Prop} (mo : MoA t) (r1 : zb6 K H δ σ) (r2 : zbV K H S) (h : t δ S R) (k : ∀ d S' v H', R d S' -> zak K H' d v -> Ext H H' -> zbV K H' S' -> Q v H') : upA K t σ H Q :=
 ⟨δ, S, r1, r2, mo δ S _ _ (fun d S' q v H' a b c => k d S' v H' q a b c) h⟩
def zjn (i : Nat) : TDE := fun δ S Q => match δ[i]? with
 | some (some d) => Q d S
 | _ => False
def dC (d : D) : TDE := fun _ S Q => Q d S
theorem zpV (i : Nat) {x : Str} {pos : Pos} (h : PE X (.Name x pos) (zq7 i)) : PD X (.Name x pos) (zjn i) := by
 refine ⟨fun δ S Q Q' hq h => ?_, PE.imp h fun σ H Q hu => ?_⟩
 ·unfold zjn at h ⊢
  split at h
  ·exact hq _ _ h
  ·exact h
 ·obtain ⟨δ, S, r1, r2, h⟩ := hu
  unfold zjn at h
  split at h
  ·rename_i d e
   obtain ⟨v, h1, h2⟩ := r1.2 i d e
   exact ⟨v, h1, h v H h2 (Ext.refl H) r2⟩
  ·exact h.elim
theorem dC.mo (d : D) : MoE (dC d) := fun _ _ _ _ hq h => hq _ _ h
theorem zd4 {e : Expr} {d : D} {v : V} (h : PE X e (tC v)) (r : ∀ H, zau X.K H d v) : PD X e (dC d) :=
 ⟨dC.mo d, PE.imp h fun _ H _ ⟨_, _, _, r2, h⟩ => h v H (r H) (Ext.refl H) r2⟩
theorem zaf {i j pos} : PD X (.Constant (.int i) j pos) (dC (.int i)) := zd4 znl fun _ => by simp only [zau]
theorem zcp {i j pos} : PD X (.Constant (.bool i) j pos) (dC (.bl i)) := zd4 zrp fun _ => by simp only [zau]
theorem znp {j pos} : PD X (.Constant .none j pos) (dC .non) := zd4 zpR fun _ => by simp only [zau]
theorem zdg {x j pos} : PD X (.Constant (.str x) j pos) (dC (.str x)) := zd4 zpN fun _ => by simp only [zau]
abbrev RD2 := D -> D -> SS -> DK -> Prop
def MoR (f : RD2) : Prop := ∀ x y S (Q Q' : DK), (∀ d S', Q d S' -> Q' d S') -> f x y S Q -> f x y S Q'
def zcZ (K : PySem.W.Frag) (f : RD2) (r : R2) : Prop := ∀ x y d e H S Q, zau K H d x -> zau K H e y -> zbV K H S -> f d e S (dnK K H Q) -> r x y H Q
def dOp (f : RD2) (ta tb : TDE) : TDE := fun δ S Q => ta δ S fun x S1 => tb δ S1 fun y S2 => f x y S2 Q
theorem dOp.mo {f : RD2} {ta tb : TDE} (hf : MoR f) (ha : MoE ta) (hb : MoE tb) : MoE (dOp f ta tb) := fun δ S Q Q' hq h =>
 ha δ S _ _ (fun x S1 h => hb δ S1 _ _ (fun y S2 h => hf x y S2 _ _ hq h) h) h
theorem zqW {f : RD2} {r : R2} {ta tb : TDE} (hr : zcZ K f r) (hf : MoR f) (ha : MoE ta) (hb : MoE tb) {σ : St} {H : Hp} {Q : VK} (h : upE K (dOp f ta tb) σ H Q) : tOp r (upE K ta) (upE K tb) σ H Q := by
 obtain ⟨δ, S, r1, r2, h⟩ := h
 refine upE.go ha r1 r2 h fun x S1 v H1 h1 q1 e1 p1 => ?_
 refine upE.go hb (r1.ext e1) p1 h1 fun y S2 w H2 h2 q2 e2 p2 => ?_
 exact hr v w x y H2 S2 Q (zau.ext e2 x q1) q2 p2 (hf x y S2 _ _ (fun d S' z => z.ext (e1.trans e2)) h2)
theorem zhO {a b : Expr} {op : Operator} {pos : Pos} {f : RD2} {r : R2} {ta tb : TDE} (ho : OpR X (binaryOp op) r) (hr : zcZ X.K f r) (hf : MoR f) (ha : PD X a ta) (hb : PD X b tb) : PD X (.BinOp a op b pos) (dOp f ta tb) :=
 ⟨dOp.mo hf ha.mo hb.mo, PE.imp (zrk ho ha.pe hb.pe) fun _ _ _ h => zqW hr hf ha.mo hb.mo h⟩
theorem zhQ {a b : Expr} {op : CmpOp} {pos : Pos} {f : RD2} {r : R2} {ta tb : TDE} (ho : OpR X (compareOp op) r) (hr : zcZ X.K f r) (hf : MoR f) (ha : PD X a ta) (hb : PD X b tb) (hm : behindInMarks op b = false) : PD X (.Compare a [op] [b] pos) (dOp f ta tb) :=
 ⟨dOp.mo hf ha.mo hb.mo, PE.imp (zn7 ho ha.pe hb.pe hm) fun _ _ _ h => zqW hr hf ha.mo hb.mo h⟩
def zfE (t : TDE) : TDT := fun δ S Q => t δ S fun x S1 => match x with
 | .bl b => Q b S1
 | _ => False
theorem zfE.mo {t : TDE} (h : MoE t) : MoT (zfE t) := fun δ S Q Q' hq q => h δ S _ _ (fun d S' z => by
 cases d <;> first
  | exact hq _ _ z
  | exact z) q
theorem zfT {a b : Expr} {op : CmpOp} {pos : Pos} {f : RD2} {r : R2} {ta tb : TDE} (ho : OpR X (compareOp op) r) (hr : zcZ X.K f r) (hf : MoR f) (ha : PD X a ta) (hb : PD X b tb) (hm : behindInMarks op b = false) : PDT X (.Compare a [op] [b] pos) (zfE (dOp f ta tb)) := by
 refine ⟨zfE.mo (dOp.mo hf ha.mo hb.mo), PT.imp (znZ ho ha.pe hb.pe hm) fun σ H Q h => ?_⟩
 obtain ⟨δ, S, r1, r2, h⟩ := h
 refine zqW hr hf ha.mo hb.mo ⟨δ, S, r1, r2, dOp.mo hf ha.mo hb.mo δ S _ _ (fun d S' z v H' a b c => ?_) h⟩
 cases d with
 | bl k => simp only [zau] at a; exact ⟨k, a, z H' b c⟩
 | non => exact z.elim
 | int _ => exact z.elim
 | str _ => exact z.elim
 | tup _ => exact z.elim
 | rol _ => exact z.elim
 | ref _ => exact z.elim
def fI (C : Int -> Int -> Prop) (g : Int -> Int -> D) : RD2 := fun x y S Q => match x, y with
 | .int i, .int j => C i j /\ Q (g i j) S
 | _, _ => False
theorem fI.mo {C : Int -> Int -> Prop} {g : Int -> Int -> D} : MoR (fI C g) := fun x y S Q Q' hq h => by
 unfold fI at h ⊢
 split at h
 ·exact ⟨h.1, hq _ _ h.2⟩
 ·exact h.elim
def fI0 (g : Int -> Int -> D) : RD2 := fun x y S Q => match x, y with
 | .int i, .int j => Q (g i j) S
 | _, _ => False
theorem fI0.mo {g : Int -> Int -> D} : MoR (fI0 g) := fun x y S Q Q' hq h => by
 unfold fI0 at h ⊢
 split at h
 ·exact hq _ _ h
 ·exact h.elim
theorem fI.fits {C : Int -> Int -> Prop} {g : Int -> Int -> D} {g' : Int -> Int -> V} (hg : ∀ i j H, zau K H (g i j) (g' i j)) : zcZ K (fI C g) (rI C g') := fun x y d e H S Q h1 h2 h3 h => by
 unfold fI at h
 split at h
 ·simp only [zau] at h1 h2
  exact ⟨_, _, h1, h2, h.1, h.2 _ H (hg _ _ H) (Ext.refl H) h3⟩
 ·exact h.elim
theorem fI0.fits {g : Int -> Int -> D} {g' : Int -> Int -> V} (hg : ∀ i j H, zau K H (g i j) (g' i j)) : zcZ K (fI0 g) (rI0 g') := fun x y d e H S Q h1 h2 h3 h => by
 unfold fI0 at h
 split at h
 ·simp only [zau] at h1 h2
  exact ⟨_, _, h1, h2, h _ H (hg _ _ H) (Ext.refl H) h3⟩
 ·exact h.elim
variable {a b c : Expr} {ta tb tc : TDE} {pos : Pos}
theorem zc3 (ha : PD X a ta) (hb : PD X b tb) : PD X (.BinOp a .Sub b pos) (dOp (fI0 fun i j => .int (i - j)) ta tb) := zhO zp1 (fI0.fits fun _ _ _ => by simp only [zau]) fI0.mo ha hb
theorem zaZ (ha : PD X a ta) (hb : PD X b tb) : PD X (.BinOp a .Mod b pos) (dOp (fI (fun _ j => 0 < j) fun i j => .int (i % j)) ta tb) := zhO zp6 (fI.fits fun _ _ _ => by simp only [zau]) fI.mo ha hb
theorem zbc (ha : PD X a ta) (hb : PD X b tb) : PD X (.BinOp a .FloorDiv b pos) (dOp (fI zeq fun i j => .int (i / j)) ta tb) := zhO zon (fI.fits fun _ _ _ => by simp only [zau]) fI.mo ha hb
theorem znn (ha : PD X a ta) (hb : PD X b tb) : PD X (.BinOp a .Pow b pos) (dOp (fI znL fun i j => .int (i ^ j.toNat)) ta tb) := zhO zp3 (fI.fits fun _ _ _ => by simp only [zau]) fI.mo ha hb
theorem zpW (ha : PD X a ta) (hb : PD X b tb) : PD X (.BinOp a .RShift b pos) (dOp (fI (fun _ j => 0 <= j) fun i j => .int (i / 2 ^ j.toNat)) ta tb) := zhO zp2 (fI.fits fun _ _ _ => by simp only [zau]) fI.mo ha hb
theorem zog (ha : PD X a ta) (hb : PD X b tb) : PD X (.BinOp a .BitAnd b pos) (dOp (fI0 fun i j => .int (Builtin.bitAnd i j)) ta tb) := zhO zqb (fI0.fits fun _ _ _ => by simp only [zau]) fI0.mo ha hb
abbrev fLe : RD2 := fI0 fun i j => .bl (decide (i <= j))
abbrev fGt : RD2 := fI0 fun i j => .bl (decide (j < i))
theorem fit_le : zcZ K fLe (rI0 fun i j => .bl (decide (i <= j))) := fI0.fits fun _ _ _ => by simp only [zau]
theorem zqE : zcZ K fGt (rI0 fun i j => .bl (decide (j < i))) := fI0.fits fun _ _ _ => by simp only [zau]
theorem zod (ha : PD X a ta) (hb : PD X b tb) : PD X (.Compare a [.LtE] [b] pos) (dOp fLe ta tb) := zhQ zk2 fit_le fI0.mo ha hb (zeV _)
theorem znm (ha : PD X a ta) (hb : PD X b tb) : PDT X (.Compare a [.Gt] [b] pos) (zfE (dOp fGt ta tb)) := zfT zrt zqE fI0.mo ha hb (zeV _)
end
end L3
namespace L3
open PySem PySem.Spec L2
open PyProof.Rows hiding St
section
variable {X : Cx} {K : PySem.W.Frag} {a b c : Expr} {ta tb tc : TDE} {pos : Pos}
def zqP (ta tb : TDE) : TDE := fun δ S Q => ta δ S fun x S1 => match x with
 | .bl k => if k = true then tb δ S1 Q else Q (.bl false) S1
 | _ => False
def zqK (ta : TDE) : TDE := fun δ S Q => ta δ S fun x S1 => match x with
 | .bl k => Q (.bl (!k)) S1
 | _ => False
theorem zcT {c : Prop} [Decidable c] {A B A' B' : Prop} (h1 : A -> A') (h2 : B -> B') (h : if c then A else B) : if c then A' else B' := by
 by_cases q : c
 ·rw [if_pos q] at h ⊢; exact h1 h
 ·rw [if_neg q] at h ⊢; exact h2 h
theorem zqP.mo (ha : MoE ta) (hb : MoE tb) : MoE (zqP ta tb) := fun δ S Q Q' hq h => ha δ S _ _ (fun x S1 z => by
 cases x <;> first
  | exact zcT (hb δ S1 _ _ hq) (hq _ _) z
  | exact z) h
theorem zqK.mo (ha : MoE ta) : MoE (zqK ta) := fun δ S Q Q' hq h => ha δ S _ _ (fun x S1 z => by
 cases x <;> first
  | exact hq _ _ z
  | exact z) h
theorem zdC {op} {t : TDE} (h : PD X a t) : PD X (.BoolOp op [a] pos) t := ⟨h.mo, zpP h.pe⟩
variable {rest : List Expr}
theorem zcO (ha : PD X a ta) (hb : PD X (.BoolOp .And (b :: rest) pos) tb) : PD X (.BoolOp .And (a :: b :: rest) pos) (zqP ta tb) := by
 refine ⟨zqP.mo ha.mo hb.mo, PE.imp (zpT ha.pe hb.pe) fun σ H Q hu => ?_⟩
 obtain ⟨δ, S, r1, r2, h⟩ := hu
 refine upE.go ha.mo r1 r2 h fun x S1 v H1 h1 q1 e1 p1 => ?_
 cases x with
 | bl k =>
  simp only [zau] at q1
  refine ⟨k, q1, zcT (fun z => ?_) (fun z => ?_) h1⟩
  ·exact upE.go hb.mo (r1.ext e1) p1 z fun y S2 w H2 h2 q2 e2 p2 => h2 w H2 q2 (e1.trans e2) p2
  ·exact z _ H1 (by simp only [zau]) e1 p1
 | non => exact h1.elim
 | int _ => exact h1.elim
 | str _ => exact h1.elim
 | tup _ => exact h1.elim
 | rol _ => exact h1.elim
 | ref _ => exact h1.elim
theorem zno (ha : PD X a ta) : PD X (.UnaryOp .Not a pos) (zqK ta) := by
 refine ⟨zqK.mo ha.mo, PE.imp (zpQ ha.pe) fun σ H Q hu => ?_⟩
 obtain ⟨δ, S, r1, r2, h⟩ := hu
 refine upE.go ha.mo r1 r2 h fun x S1 v H1 h1 q1 e1 p1 => ?_
 cases x with
 | bl k =>
  simp only [zau] at q1
  exact ⟨k, q1, h1 _ H1 (by simp only [zau]) e1 p1⟩
 | non => exact h1.elim
 | int _ => exact h1.elim
 | str _ => exact h1.elim
 | tup _ => exact h1.elim
 | rol _ => exact h1.elim
 | ref _ => exact h1.elim
def zqI (t u : TDT) : TDT := fun δ S Q => t δ S fun k S1 => if k = true then u δ S1 Q else Q false S1
def eOr (t u : TDT) : TDT := fun δ S Q => t δ S fun k S1 => if k = true then Q true S1 else u δ S1 Q
def zqH (t : TDT) : TDT := fun δ S Q => t δ S fun k S1 => Q (!k) S1
variable {t u : TDT}
theorem zqI.mo (h : MoT t) (h' : MoT u) : MoT (zqI t u) := fun δ S _ _ hq z => h δ S _ _ (fun k S1 z => zcT (h' δ S1 _ _ hq) (hq _ _) z) z
theorem eOr.mo (h : MoT t) (h' : MoT u) : MoT (eOr t u) := fun δ S _ _ hq z => h δ S _ _ (fun k S1 z => zcT (hq _ _) (h' δ S1 _ _ hq) z) z
theorem zqH.mo (h : MoT t) : MoT (zqH t) := fun δ S _ _ hq z => h δ S _ _ (fun k S1 z => hq _ _ z) z
structure PDW (X : Cx) (e : Expr) (t : TDT) : Prop where
 mo : MoT t
 pw : PW X e (upT X.K t)
theorem PW.imp {e : Expr} {t t' : TT} (h : PW X e t) (hi : ∀ σ H Q, t' σ H Q -> t σ H Q) : PW X e t' := fun whole pins s σ H Q I q => h whole pins s σ H Q I (hi σ H Q q)
theorem PDW.pt {e : Expr} {t : TDT} (h : PDW X e t) : PDT X e t := ⟨h.mo, PW.pt h.pw⟩
theorem zja (h : PDT X a t) : PDW X (.BoolOp .And [a] pos) t := ⟨h.mo, znY h.pt⟩
theorem zcd (h : PDT X a t) : PDW X (.BoolOp .Or [a] pos) t := ⟨h.mo, zpy h.pt⟩
theorem zkV (ha : PDT X a t) (hb : PDW X (.BoolOp .And (b :: rest) pos) u) : PDW X (.BoolOp .And (a :: b :: rest) pos) (zqI t u) := by
 refine ⟨zqI.mo ha.mo hb.mo, PW.imp (zpz ha.pt hb.pw) fun σ H Q hu => ?_⟩
 obtain ⟨δ, S, r1, r2, h⟩ := hu
 refine upT.go ha.mo r1 r2 h fun k S1 H1 h1 e1 p1 => zcT (fun z => ?_) (fun z => z H1 e1 p1) h1
 exact upT.go hb.mo (r1.ext e1) p1 z fun y S2 H2 h2 e2 p2 => h2 H2 (e1.trans e2) p2
theorem zcs (ha : PDT X a t) (hb : PDW X (.BoolOp .Or (b :: rest) pos) u) : PDW X (.BoolOp .Or (a :: b :: rest) pos) (eOr t u) := by
 refine ⟨eOr.mo ha.mo hb.mo, PW.imp (zrh ha.pt hb.pw) fun σ H Q hu => ?_⟩
 obtain ⟨δ, S, r1, r2, h⟩ := hu
 refine upT.go ha.mo r1 r2 h fun k S1 H1 h1 e1 p1 => zcT (fun z => z H1 e1 p1) (fun z => ?_) h1
 exact upT.go hb.mo (r1.ext e1) p1 z fun y S2 H2 h2 e2 p2 => h2 H2 (e1.trans e2) p2
theorem zaT (ha : PDT X a t) : PDT X (.UnaryOp .Not a pos) (zqH t) := by
 refine ⟨zqH.mo ha.mo, PT.imp (zpA ha.pt) fun σ H Q hu => ?_⟩
 obtain ⟨δ, S, r1, r2, h⟩ := hu
 exact upT.go ha.mo r1 r2 h fun k S1 H1 h1 e1 p1 => h1 H1 e1 p1
def tru (d : D) (S : SS) (Q : Bool -> SS -> Prop) : Prop := match d with
 | .non => Q false S
 | .bl k => Q k S
 | .int i => Q (i != 0) S
 | .str x => x.length <= sizeLine /\ Q ((x.length : Int) != 0) S
 | .tup ds => Q (!ds.isEmpty) S
 | .rol ds => Q (!ds.isEmpty) S
 | .ref p => match S p with
  | some (.lst ds) => Q (!ds.isEmpty) S
  | some (.dct kvs) => Q (!kvs.isEmpty) S
  | none => False
def zsd (ta : TDE) : TDT := fun δ S Q => ta δ S fun x S1 => tru x S1 Q
theorem tru.mo {d : D} {S : SS} {Q Q' : Bool -> SS -> Prop} (hq : ∀ k S', Q k S' -> Q' k S') (h : tru d S Q) : tru d S Q' := by
 cases d with
 | str x => exact ⟨h.1, hq _ _ h.2⟩
 | ref p =>
  unfold tru at h ⊢
  dsimp only at h ⊢
  split at h
  ·exact hq _ _ h
  ·exact hq _ _ h
  ·exact h
 | _ => exact hq _ _ h
theorem zak.isEmpty {H : Hp} {ds : List D} {xs : List V} (h : zak K H ds xs) : ds.isEmpty = xs.isEmpty := by
 have := h.length
 cases ds <;> cases xs <;> simp_all
theorem zgs {α β : Type} {F : α -> β -> Prop} {xs : List α} {ys : List β} (h : Paired F xs ys) : xs.isEmpty = ys.isEmpty := by cases h <;> rfl
theorem tru.fits {H : Hp} {d : D} {v : V} {S : SS} {Q : Bool -> Hp -> Prop} (r : zau K H d v) (p : zbV K H S) (h : tru d S (dnB K H Q)) : ∃ k, zrP K v H k /\ Q k H := by
 cases d with
 | non => simp only [zau] at r; subst r; exact ⟨false, rfl, h H (.refl H) p⟩
 | bl k => simp only [zau] at r; subst r; exact ⟨k, rfl, h H (.refl H) p⟩
 | int i => simp only [zau] at r; subst r; exact ⟨_, rfl, h H (.refl H) p⟩
 | str x => simp only [zau] at r; subst r; exact ⟨_, ⟨h.1, rfl⟩, h.2 H (.refl H) p⟩
 | tup ds =>
  simp only [zau] at r
  obtain ⟨a, xs, rfl, r1, r2⟩ := r
  exact ⟨_, .inr (.inl ⟨xs, r1, by rw [r2.isEmpty]⟩), h H (.refl H) p⟩
 | rol ds =>
  simp only [zau] at r
  obtain ⟨a, xs, rfl, r1, r2⟩ := r
  exact ⟨_, .inl ⟨xs, r1.sq, by rw [r2.isEmpty]⟩, h H (.refl H) p⟩
 | ref a =>
  simp only [zau] at r
  subst r
  unfold tru at h
  dsimp only at h
  split at h
  ·rename_i ds e
   obtain ⟨xs, e1, r2⟩ := p a _ e
   exact ⟨_, .inl ⟨xs, SqL.of e1, by rw [r2.isEmpty]⟩, h H (.refl H) p⟩
  ·rename_i kvs e
   obtain ⟨xs, e1, r2⟩ := p a _ e
   exact ⟨_, .inr (.inr ⟨xs, e1, by rw [zgs r2]⟩), h H (.refl H) p⟩
  ·exact h.elim
theorem zaY (ha : PD X a ta) (he : ∀ whole, isTrue a X.env whole = (do let v <- whole; standAt a.pos; holding [v] (truthy v)) := by intro _; rfl) : PDT X a (zsd ta) := by
 refine ⟨fun δ S Q Q' hq h => ha.mo δ S _ _ (fun x S1 z => tru.mo hq z) h, PT.imp (zmk ha.pe he) fun σ H Q hu => ?_⟩
 obtain ⟨δ, S, r1, r2, h⟩ := hu
 refine upE.go ha.mo r1 r2 h fun x S1 v H1 h1 q1 e1 p1 => ?_
 exact tru.fits q1 p1 (tru.mo (fun k S' z => z.ext e1) h1)
def zrJ : TDA := fun _ S Q => Q [] S
def zj6 (te : TDE) (tr : TDA) : TDA := fun δ S Q => te δ S fun x S1 => tr δ S1 fun xs S2 => Q (x :: xs) S2
variable {e : Expr} {es : List Expr} {te : TDE} {tA : TDA}
theorem zj6.mo (h : MoE te) (h' : MoA tA) : MoA (zj6 te tA) := fun δ S _ _ hq z => h δ S _ _ (fun x S1 z => h' δ S1 _ _ (fun xs S2 z => hq _ _ z) z) z
theorem zad : PDA X [] zrJ := ⟨fun _ _ _ _ hq h => hq _ _ h, PA.imp zhR fun σ H Q ⟨_, _, _, r2, h⟩ => h [] H .nil (.refl H) r2⟩
theorem zab (ha : PD X e te) (hr : PDA X es tA) (hs : starEach (e :: es) X.env = (false, eval e X.env) :: starEach es X.env := by rfl) : PDA X (e :: es) (zj6 te tA) := by
 refine ⟨zj6.mo ha.mo hr.mo, PA.imp (zfc ha.pe hr.pa hs) fun σ H Q hu => ?_⟩
 obtain ⟨δ, S, r1, r2, h⟩ := hu
 refine upE.go ha.mo r1 r2 h fun x S1 v H1 h1 q1 e1 p1 => ?_
 refine upA.go hr.mo (r1.ext e1) p1 h1 fun xs S2 w H2 h2 q2 e2 p2 => ?_
 exact h2 (v :: w) H2 (.cons (zau.ext e2 x q1) q2) (e1.trans e2) p2
def zse (t : TDA) : TDE := fun δ S Q => t δ S fun ds S1 => ds.length <= sizeLine /\ Q (.tup ds) S1
def zsi (t : TDA) : TDE := fun δ S Q => t δ S fun ds S1 => ds.length <= sizeLine /\ ∀ p, S1 p = none -> Q (.ref p) (ups S1 p (.lst ds))
theorem zax {k} (h : PDA X es tA) : PD X (.Tuple es k pos) (zse tA) := by
 refine ⟨fun δ S _ _ hq z => h.mo δ S _ _ (fun ds S1 z => ⟨z.1, hq _ _ z.2⟩) z, PE.imp (zpM h.pa) fun σ H Q hu => ?_⟩
 obtain ⟨δ, S, r1, r2, h'⟩ := hu
 refine upA.go h.mo r1 r2 h' fun ds S1 xs H1 h1 q1 e1 p1 => ⟨by rw [<- q1.length]; exact h1.1, fun p hp => ?_⟩
 refine h1.2 _ _ ?_ (e1.trans (.new hp _)) (p1.new hp)
 simp only [zau]
 exact ⟨p, xs, rfl, SqT.of zaA, zak.ext (.new hp _) ds q1⟩
theorem zbz (h : PDA X es tA) : PD X (.List es pos) (zsi tA) := by
 refine ⟨fun δ S _ _ hq z => h.mo δ S _ _ (fun ds S1 z => ⟨z.1, fun p hp => hq _ _ (z.2 p hp)⟩) z, PE.imp (zpS h.pa) fun σ H Q hu => ?_⟩
 obtain ⟨δ, S, r1, r2, h'⟩ := hu
 refine upA.go h.mo r1 r2 h' fun ds S1 xs H1 h1 q1 e1 p1 => ⟨by rw [<- q1.length]; exact h1.1, fun p hp => ?_⟩
 refine h1.2 p (p1.none hp) _ _ (by simp only [zau]) (e1.trans (.new hp _)) ?_
 exact p1.ups (.new hp _) ⟨xs, zaA, zak.ext (.new hp _) ds q1⟩
def fIx : RD2 := fun x y S Q => match x, y with
 | .tup ds, .int i => match atI ds i with
  | some d => Q d S
  | none => False
 | .rol ds, .int i => match atI ds i with
  | some d => Q d S
  | none => False
 | .ref p, .int i => match S p with
  | some (.lst ds) => match atI ds i with
   | some d => Q d S
   | none => False
  | _ => False
 | _, _ => False
theorem fIx.mo : MoR fIx := fun x y S Q Q' hq h => by
 unfold fIx at h ⊢
 split at h
 ·skip
  split at h
  ·exact hq _ _ h
  ·exact h
 ·skip
  split at h
  ·exact hq _ _ h
  ·exact h
 ·skip
  split at h
  ·skip
   split at h
   ·exact hq _ _ h
   ·exact h
  ·exact h.elim
 ·exact h.elim
theorem zak.atI {H : Hp} {ds : List D} {xs : List V} {i : Int} {d : D} (h : zak K H ds xs) (e : L2.atI ds i = some d) : ∃ x, L2.atI xs i = some x /\ zau K H d x := by
 unfold L2.atI at e ⊢
 rw [h.length] at e
 cases q : ixN xs.length i with
 | none => rw [q] at e; cases e
 | some j =>
  rw [q] at e
  exact h.get e
theorem fIx.fits : zcZ K fIx (rIx K) := fun x y d e H S Q h1 h2 h3 h => by
 unfold fIx at h
 split at h
 ·split at h
  ·rename_i q
   simp only [zau] at h1 h2
   obtain ⟨a, xs, rfl, r1, r2⟩ := h1
   obtain ⟨x', e1, e2⟩ := r2.atI q
   exact .inr (.inl ⟨a, xs, _, x', rfl, h2, r1, e1, h x' H e2 (.refl H) h3⟩)
  ·exact h.elim
 ·split at h
  ·rename_i q
   simp only [zau] at h1 h2
   obtain ⟨a, xs, rfl, r1, r2⟩ := h1
   obtain ⟨x', e1, e2⟩ := r2.atI q
   exact .inl ⟨a, xs, _, x', rfl, h2, r1.sq, e1, h x' H e2 (.refl H) h3⟩
  ·exact h.elim
 ·split at h
  ·rename_i q0
   split at h
   ·rename_i q
    simp only [zau] at h1 h2
    subst h1
    obtain ⟨xs, r1, r2⟩ := h3 _ _ q0
    obtain ⟨x', e1, e2⟩ := r2.atI q
    exact .inl ⟨_, xs, _, x', rfl, h2, SqL.of r1, e1, h x' H e2 (.refl H) h3⟩
   ·exact h.elim
  ·exact h.elim
 ·exact h.elim
theorem zaO (ha : PD X a ta) (hb : PD X b tb) (hs : zlU b := by exact fun _ _ => rfl) : PD X (.Subscript a b pos) (dOp fIx ta tb) :=
 ⟨dOp.mo fIx.mo ha.mo hb.mo, PE.imp (zrn zqA ha.pe hb.pe hs) fun _ _ _ h => zqW fIx.fits fIx.mo ha.mo hb.mo h⟩
abbrev RDn := List D -> SS -> DK -> Prop
def MoN (f : RDn) : Prop := ∀ ds S (Q Q' : DK), (∀ d S', Q d S' -> Q' d S') -> f ds S Q -> f ds S Q'
def zho (K : PySem.W.Frag) (f : RDn) (r : List V -> Hp -> VK -> Prop) : Prop := ∀ xs ds H S Q, zak K H ds xs -> zbV K H S -> f ds S (dnK K H Q) -> r xs H Q
def dCB (f : RDn) (t : TDA) : TDE := fun δ S Q => t δ S fun ds S1 => f ds S1 Q
theorem dCB.mo {f : RDn} (hf : MoN f) (h : MoA tA) : MoE (dCB f tA) := fun δ S _ _ hq z => h δ S _ _ (fun ds S1 z => hf ds S1 _ _ hq z) z
theorem zrW {f : RDn} {r : List V -> Hp -> VK -> Prop} (hf : MoN f) (hr : zho K f r) (h : MoA tA) {σ : St} {H : Hp} {Q : VK} (hu : upE K (dCB f tA) σ H Q) : tCB r (upA K tA) σ H Q := by
 obtain ⟨δ, S, r1, r2, h'⟩ := hu
 refine upA.go h r1 r2 h' fun ds S1 xs H1 h1 q1 e1 p1 => ?_
 exact hr xs ds H1 S1 Q q1 p1 (hf ds S1 _ _ (fun d S' z => z.ext e1) h1)
theorem zcL {f : RDn} {r : List V -> Hp -> VK -> Prop} {e : Expr} (h : PE X e (tCB r (upA X.K tA))) (hf : MoN f) (hr : zho X.K f r) (ha : MoA tA) : PD X e (dCB f tA) :=
 ⟨dCB.mo hf ha, PE.imp h fun _ _ _ hu => zrW hf hr ha hu⟩
noncomputable def za7 (d : D) (S : SS) : Option (List D) := match d with
 | .tup ds => some ds
 | .rol ds => some ds
 | .ref p => match S p with
  | some (.lst ds) => some ds
  | _ => none
 | _ => none
theorem za7.sq {H : Hp} {S : SS} {d : D} {v : V} {ds : List D} (r : zau K H d v) (p : zbV K H S) (e : za7 d S = some ds) : ∃ a xs, v = .ref a /\ (SqL K H a xs \/ SqT K H a xs) /\ zak K H ds xs := by
 unfold za7 at e
 split at e
 ·cases e
  simp only [zau] at r
  obtain ⟨a, xs, h1, h2, h3⟩ := r
  exact ⟨a, xs, h1, .inr h2, h3⟩
 ·cases e
  simp only [zau] at r
  obtain ⟨a, xs, h1, h2, h3⟩ := r
  exact ⟨a, xs, h1, .inl h2.sq, h3⟩
 ·split at e
  ·rename_i q
   cases e
   simp only [zau] at r
   subst r
   obtain ⟨xs, h1, h2⟩ := p _ _ q
   exact ⟨_, xs, rfl, .inl (SqL.of h1), h2⟩
  ·cases e
 ·cases e
theorem zak.one {H : Hp} {d : D} {xs : List V} (h : zak K H [d] xs) : ∃ x, xs = [x] /\ zau K H d x := by
 simp only [zak] at h
 obtain ⟨x, r, rfl, h2, rfl⟩ := h
 exact ⟨x, rfl, h2⟩
theorem zak.two {H : Hp} {d d' : D} {xs : List V} (h : zak K H [d, d'] xs) : ∃ x y, xs = [x, y] /\ zau K H d x /\ zau K H d' y := by
 simp only [zak] at h
 obtain ⟨x, r, rfl, h2, y, r', rfl, h3, rfl⟩ := h
 exact ⟨x, y, rfl, h2, h3⟩
def zkk : RDn := fun ds S Q => match ds with
 | [d] => match za7 d S with
  | some ds => Q (.int ds.length) S
  | none => match d with
   | .str z => z.length <= sizeLine /\ Q (.int z.length) S
   | _ => False
 | _ => False
theorem zkk.mo : MoN zkk := fun ds S Q Q' hq h => by
 unfold zkk at h ⊢
 split at h
 ·skip
  split at h
  ·exact hq _ _ h
  ·split at h
   ·exact ⟨h.1, hq _ _ h.2⟩
   ·exact h.elim
 ·exact h.elim
abbrev zsA (K : PySem.W.Frag) : List V -> Hp -> VK -> Prop := fun xs H Q => (∃ p ys, xs = [.ref p] /\ (SqL K H p ys \/ SqT K H p ys) /\ Q (.int ys.length) H) \/ (∃ z, xs = [.str z] /\ z.length <= sizeLine /\ Q (.int z.length) H)
theorem zkk.fits : zho K zkk (zsA K) := fun xs ds H S Q h0 h2 h => by
 unfold zkk at h
 split at h
 ·obtain ⟨x, hx, h1⟩ := h0.one; subst hx
  split at h
  ·rename_i e
   obtain ⟨a, ys, rfl, q, r⟩ := za7.sq h1 h2 e
   refine .inl ⟨a, ys, rfl, q, ?_⟩
   rw [<- r.length]
   exact h _ H (by simp only [zau]) (.refl H) h2
  ·split at h
   ·simp only [zau] at h1
    subst h1
    exact .inr ⟨_, rfl, h.1, h.2 _ H (by simp only [zau]) (.refl H) h2⟩
   ·exact h.elim
 ·exact h.elim
def zfC : RDn := fun ds S Q => match ds with
 | [d] => match za7 d S with
  | some ds => ∀ p, S p = none -> Q (.ref p) (ups S p (.lst ds))
  | none => False
 | _ => False
theorem zfC.mo : MoN zfC := fun ds S Q Q' hq h => by
 unfold zfC at h ⊢
 split at h
 ·skip
  split at h
  ·exact fun p hp => hq _ _ (h p hp)
  ·exact h.elim
 ·exact h.elim
theorem zfC.fits : zho K zfC (fun xs H Q => ∃ p ys, xs = [.ref p] /\ (SqL K H p ys \/ SqT K H p ys) /\ ∀ l, H l = none -> Q (.ref l) (upd H l (.lst ys))) := fun xs ds H S Q h0 h2 h => by
 unfold zfC at h
 split at h
 ·obtain ⟨x, hx, h1⟩ := h0.one; subst hx
  split at h
  ·rename_i e
   obtain ⟨a, ys, rfl, q, r⟩ := za7.sq h1 h2 e
   refine ⟨a, ys, rfl, q, fun l hl => ?_⟩
   exact h l (h2.none hl) _ _ (by simp only [zau]) (.new hl _) (h2.ups (.new hl _) ⟨ys, zaA, zak.ext (.new hl _) _ r⟩)
  ·exact h.elim
 ·exact h.elim
def zdG : RDn := fun ds S Q => match ds with
 | [.tup ds] => Q (.tup ds) S
 | [.rol ds] => Q (.tup ds) S
 | [.ref p] => match S p with
  | some (.lst ds) => Q (.tup ds) S
  | _ => False
 | _ => False
theorem zdG.mo : MoN zdG := fun ds S Q Q' hq h => by
 unfold zdG at h ⊢
 split at h
 ·exact hq _ _ h
 ·exact hq _ _ h
 ·skip
  split at h
  ·exact hq _ _ h
  ·exact h.elim
 ·exact h.elim
theorem zdG.fits : zho K zdG (fun xs H Q => ∃ p ys, xs = [.ref p] /\ ((SqL K H p ys /\ ∀ l, H l = none -> Q (.ref l) (upd H l (.tup ys))) \/ (SqT K H p ys /\ Q (.ref p) H))) := fun xs ds H S Q h0 h2 h => by
 unfold zdG at h
 split at h
 ·obtain ⟨x, hx, h1⟩ := h0.one; subst hx
  have h1' := h1
  simp only [zau] at h1
  obtain ⟨a, xs, rfl, r1, r2⟩ := h1
  exact ⟨a, xs, rfl, .inr ⟨r1, h _ H h1' (.refl H) h2⟩⟩
 ·obtain ⟨x, hx, h1⟩ := h0.one; subst hx
  simp only [zau] at h1
  obtain ⟨a, xs, rfl, r1, r2⟩ := h1
  refine ⟨a, xs, rfl, .inl ⟨r1.sq, fun l hl => h _ _ ?_ (.new hl _) (h2.new hl)⟩⟩
  simp only [zau]
  exact ⟨l, xs, rfl, SqT.of zaA, zak.ext (.new hl _) _ r2⟩
 ·obtain ⟨x, hx, h1⟩ := h0.one; subst hx
  split at h
  ·rename_i e
   simp only [zau] at h1
   subst h1
   obtain ⟨xs, r1, r2⟩ := h2 _ _ e
   refine ⟨_, xs, rfl, .inl ⟨SqL.of r1, fun l hl => h _ _ ?_ (.new hl _) (h2.new hl)⟩⟩
   simp only [zau]
   exact ⟨l, xs, rfl, SqT.of zaA, zak.ext (.new hl _) _ r2⟩
  ·exact h.elim
 ·exact h.elim
def zsY : RD2 := fun x y S Q => match x, y with
 | .ref p, .ref q => match S p, S q with
  | some (.lst ds), some (.lst es) => ds.length + es.length <= sizeLine /\ ∀ r, S r = none -> Q (.ref r) (ups S r (.lst (ds ++ es)))
  | _, _ => False
 | _, _ => False
def zdW (to te : TDE) : TDE := fun δ S Q => to δ S fun x S1 => match x with
 | .ref p => (∃ ds, S1 p = some (.lst ds)) /\ te δ S1 fun y S2 => match S2 p with
  | some (.lst ds) => ds.length < sizeLine /\ Q .non (ups S2 p (.lst (ds ++ [y])))
  | _ => False
 | _ => False
theorem zdW.mo {to te : TDE} (h : MoE to) (h' : MoE te) : MoE (zdW to te) := fun δ S Q Q' hq z => h δ S _ _ (fun x S1 z => by
 cases x with
 | ref p =>
  refine ⟨z.1, h' δ S1 _ _ (fun y S2 w => ?_) z.2⟩
  split at w
  ·exact ⟨w.1, hq _ _ w.2⟩
  ·exact w.elim
 | _ => exact z) z
theorem zk0 {o e : Expr} {to te : TDE} {e0 : Expr} (hpe : PE X e0 (tBM X.K "list" zkN (upE X.K to) (zph (upE X.K te) zrZ))) (h : MoE to) (h' : MoE te) : PD X e0 (zdW to te) := by
 refine ⟨zdW.mo h h', PE.imp hpe fun σ H Q hu => ?_⟩
 obtain ⟨δ, S, r1, r2, z⟩ := hu
 refine upE.go h r1 r2 z fun x S1 v H1 h1 q1 e1 p1 => ?_
 cases x with
 | ref p =>
  obtain ⟨⟨ds, hd⟩, h1⟩ := h1
  simp only [zau] at q1
  subst q1
  obtain ⟨xs, g1, g2⟩ := p1 _ _ hd
  refine ⟨.inl ⟨rfl, xs, SqL.of g1⟩, ?_⟩
  refine upE.go h' (r1.ext e1) p1 h1 fun y S2 w H2 h2 q2 e2 p2 => ?_
  split at h2
  ·rename_i ds' e3
   obtain ⟨xs', g3, g4⟩ := p2 _ _ e3
   refine ⟨p, xs', w, rfl, rfl, g3, by rw [<- g4.length]; exact h2.1, ?_⟩
   have e4 : Ext H2 (upd H2 p (.lst (xs' ++ [w]))) := .lst g3 _
   exact h2.2 _ _ (by simp only [zau]) ((e1.trans e2).trans e4) (p2.ups e4 ⟨_, zaA, zak.ext e4 _ (g4.snoc q2)⟩)
  ·exact h2.elim
 | non => exact h1.elim
 | bl _ => exact h1.elim
 | int _ => exact h1.elim
 | str _ => exact h1.elim
 | tup _ => exact h1.elim
 | rol _ => exact h1.elim
end
structure zki where
 nx : StD -> SS -> Prop
 rt : DK
 bk : StD -> SS -> Prop := fun _ _ => False
 ct : StD -> SS -> Prop := fun _ _ => False
abbrev TDS := zki -> StD -> SS -> Prop
structure zki.Le (E E' : zki) : Prop where
 nx : ∀ δ S, E.nx δ S -> E'.nx δ S
 rt : ∀ d S, E.rt d S -> E'.rt d S
 bk : ∀ δ S, E.bk δ S -> E'.bk δ S
 ct : ∀ δ S, E.ct δ S -> E'.ct δ S
def MoS (t : TDS) : Prop := ∀ E E' δ S, zki.Le E E' -> t E δ S -> t E' δ S
noncomputable def dnE (K : PySem.W.Frag) (H : Hp) (D : Ends) : zki := ⟨dnS K H D.nx, dnK K H D.rt, dnS K H D.bk, dnS K H D.ct⟩
theorem dnE.ext {K : PySem.W.Frag} {H H' : Hp} {D : Ends} (e : Ext H H') : (dnE K H D).Le (dnE K H' D) := ⟨fun _ _ h => dnS.ext e h, fun _ _ h => dnK.ext e h, fun _ _ h => dnS.ext e h, fun _ _ h => dnS.ext e h⟩
def upS (K : PySem.W.Frag) (t : TDS) : TS := fun D σ H => ∃ δ S, zb6 K H δ σ /\ zbV K H S /\ t (dnE K H D) δ S
structure PDS (X : Cx) (st : Stmt) (t : TDS) : Prop where
 mo : MoS t
 ps : PS X st (upS X.K t)
structure zl6 (X : Cx) (st : List Stmt) (t : TDS) : Prop where
 mo : MoS t
 ps : PSs X st (upS X.K t)
section
variable {X : Cx} {K : PySem.W.Frag} {st : Stmt} {rest : List Stmt} {t u : TDS} {pos : Pos} {e : Expr} {te : TDE}
def zqL : TDS := fun E δ S => E.nx δ S
def zqJ (t u : TDS) : TDS := fun E δ S => t { E with nx := u E } δ S
theorem zqJ.mo (h : MoS t) (h' : MoS u) : MoS (zqJ t u) := fun E E' δ S hE z => h { E with nx := u E } { E' with nx := u E' } δ S ⟨fun δ S q => h' E E' δ S hE q, hE.rt, hE.bk, hE.ct⟩ z
theorem zaB : zl6 X [] zqL := ⟨fun _ _ _ _ hE h => hE.nx _ _ h, PSs.imp zn1 fun D σ H ⟨δ, S, r1, r2, h⟩ => h σ H r1 (.refl H) r2⟩
theorem zam (h : PDS X st t) : zl6 X [st] t := ⟨h.mo, zn0 h.ps⟩
theorem zag (h : PDS X st t) (h' : zl6 X rest u) : zl6 X (st :: rest) (zqJ t u) := by
 refine ⟨zqJ.mo h.mo h'.mo, PSs.imp (zmm h.ps h'.ps) fun D σ H hu => ?_⟩
 obtain ⟨δ, S, r1, r2, z⟩ := hu
 refine ⟨δ, S, r1, r2, h.mo { dnE X.K H D with nx := u (dnE X.K H D) } _ δ S ⟨fun δ' S' q σ' H' q1 q2 q3 => ?_, fun _ _ q => q, fun _ _ q => q, fun _ _ q => q⟩ z⟩
 exact ⟨δ', S', q1, q3, h'.mo _ _ δ' S' (dnE.ext q2) q⟩
def zqO (te : TDE) : TDS := fun E δ S => te δ S fun _ S1 => E.nx δ S1
theorem zeG (he : PD X e te) (hs : swapsWith e none pos.line X.env = pure false := by rfl) : PDS X (.Expr e pos) (zqO te) := by
 refine ⟨fun E E' δ S hE z => he.mo δ S _ _ (fun _ _ q => hE.nx _ _ q) z, PS.imp (zn2 he.pe hs) fun D σ H hu => ?_⟩
 obtain ⟨δ, S, r1, r2, z⟩ := hu
 exact upE.go he.mo r1 r2 z fun x S1 v H1 h1 q1 e1 p1 => h1 σ H1 (r1.ext e1) e1 p1
def zsg (te : TDE) : TDS := fun E δ S => te δ S E.rt
theorem zav (he : PD X e te) : PDS X (.Return (some e) pos) (zsg te) := by
 refine ⟨fun E E' δ S hE z => he.mo δ S _ _ (fun _ _ q => hE.rt _ _ q) z, PS.imp (zpC he.pe) fun D σ H hu => ?_⟩
 obtain ⟨δ, S, r1, r2, z⟩ := hu
 exact upE.go he.mo r1 r2 z fun x S1 v H1 h1 q1 e1 p1 => h1 v H1 q1 e1 p1
def zsj (c : TDT) (t u : TDS) : TDS := fun E δ S => c δ S fun k S1 => if k = true then t E δ S1 else u E δ S1
theorem zbk {c : Expr} {p q : List Stmt} {tc : TDT} (hc : PDT X c tc) (h : zl6 X p t) (h' : zl6 X q u) : PDS X (.If c p q pos) (zsj tc t u) := by
 refine ⟨fun E E' δ S hE z => hc.mo δ S _ _ (fun k S1 z => zcT (h.mo _ _ δ S1 hE) (h'.mo _ _ δ S1 hE) z) z, PS.imp (zri hc.pt h.ps h'.ps) fun D σ H hu => ?_⟩
 obtain ⟨δ, S, r1, r2, z⟩ := hu
 refine upT.go hc.mo r1 r2 z fun k S1 H1 h1 e1 p1 => zcT (fun z => ?_) (fun z => ?_) h1
 ·exact ⟨δ, S1, r1.ext e1, p1, h.mo _ _ δ S1 (dnE.ext e1) z⟩
 ·exact ⟨δ, S1, r1.ext e1, p1, h'.mo _ _ δ S1 (dnE.ext e1) z⟩
abbrev TDG := D -> StD -> SS -> (StD -> SS -> Prop) -> Prop
abbrev ziw := List D -> StD -> SS -> (StD -> SS -> Prop) -> Prop
def MoG (t : TDG) : Prop := ∀ d δ S (Q Q' : StD -> SS -> Prop), (∀ δ S, Q δ S -> Q' δ S) -> t d δ S Q -> t d δ S Q'
def zso (t : ziw) : Prop := ∀ d δ S (Q Q' : StD -> SS -> Prop), (∀ δ S, Q δ S -> Q' δ S) -> t d δ S Q -> t d δ S Q'
noncomputable def upG (K : PySem.W.Frag) (t : TDG) : TG := fun v σ H Q => ∃ d δ S, zau K H d v /\ zb6 K H δ σ /\ zbV K H S /\ t d δ S (dnS K H Q)
noncomputable def zrV (K : PySem.W.Frag) (t : ziw) : TGs := fun v σ H Q => ∃ d δ S, zak K H d v /\ zb6 K H δ σ /\ zbV K H S /\ t d δ S (dnS K H Q)
structure PDG (X : Cx) (e : Expr) (t : TDG) : Prop where
 mo : MoG t
 pg : PG X e (upG X.K t)
structure zq1 (X : Cx) (es : List Expr) (t : ziw) : Prop where
 mo : zso t
 pg : PGs X es (zrV X.K t)
theorem PG.imp {e : Expr} {t t' : TG} (h : PG X e t) (hi : ∀ v σ H Q, t' v σ H Q -> t v σ H Q) : PG X e t' := fun pins s σ H v w Q I r q => h pins s σ H v w Q I r (hi v σ H Q q)
theorem PGs.imp {e : List Expr} {t t' : TGs} (h : PGs X e t) (hi : ∀ v σ H Q, t' v σ H Q -> t v σ H Q) : PGs X e t' := fun pins s σ H v w Q I r q => h pins s σ H v w Q I r (hi v σ H Q q)
def hName (i : Nat) : TDG := fun d δ S Q => Q (δ.set i (some d)) S
theorem zmu {e : Expr} {i : Nat} (h : PG X e (zmM i)) : PDG X e (hName i) :=
 ⟨fun _ _ _ _ _ hq z => hq _ _ z, PG.imp h fun v σ H Q ⟨d, δ, S, r1, r2, r3, z⟩ => z _ H (r2.set i r1) (.refl H) r3⟩
def zrB : ziw := fun ds δ S Q => ds = [] /\ Q δ S
def zoE (t : TDG) (u : ziw) : ziw := fun ds δ S Q => match ds with
 | d :: r => t d δ S fun δ' S' => u r δ' S' Q
 | [] => False
theorem zgV : zq1 X [] zrB := by
 refine ⟨fun _ _ _ _ _ hq z => ⟨z.1, hq _ _ z.2⟩, PGs.imp zn5 fun v σ H Q hu => ?_⟩
 obtain ⟨d, δ, S, r1, r2, r3, z1, z2⟩ := hu
 subst z1
 simp only [zak] at r1
 exact ⟨r1, z2 σ H r2 (.refl H) r3⟩
theorem zcl {e : Expr} {es : List Expr} {t : TDG} {u : ziw} (h : PDG X e t) (h' : zq1 X es u) (hs : (assignEach (e :: es) X.env).map (·.2) = assign e X.env :: (assignEach es X.env).map (·.2) := by rfl) : zq1 X (e :: es) (zoE t u) := by
 refine ⟨fun ds δ S Q Q' hq z => ?_, PGs.imp (zmp h.pg h'.pg hs) fun v σ H Q hu => ?_⟩
 ·cases ds with
  | nil => exact z
  | cons d r => exact h.mo d δ S _ _ (fun δ' S' z => h'.mo r δ' S' _ _ hq z) z
 ·obtain ⟨ds, δ, S, r1, r2, r3, z⟩ := hu
  cases ds with
  | nil => exact z.elim
  | cons d r =>
   simp only [zak] at r1
   obtain ⟨x, xs, rfl, q1, q2⟩ := r1
   refine ⟨x, xs, rfl, d, δ, S, q1, r2, r3, h.mo d δ S _ _ (fun δ' S' z σ' H' g1 g2 g3 => ?_) z⟩
   exact ⟨r, δ', S', zak.ext g2 r q2, g1, g3, h'.mo r δ' S' _ _ (fun δ2 S2 z2 => dnS.ext g2 z2) z⟩
def zqZ (n : Nat) (t : ziw) : TDG := fun d δ S Q => match d with
 | .tup ds => ds.length = n /\ t ds δ S Q
 | _ => False
theorem zoc {e : Expr} {n : Nat} {t : ziw} (h : PG X e (zsc X.K n (zrV X.K t))) (hm : zso t) : PDG X e (zqZ n t) := by
 refine ⟨fun d δ S Q Q' hq z => ?_, PG.imp h fun v σ H Q hu => ?_⟩
 ·cases d with
  | tup ds => exact ⟨z.1, hm ds δ S _ _ hq z.2⟩
  | _ => exact z
 ·obtain ⟨d, δ, S, r1, r2, r3, z⟩ := hu
  cases d with
  | tup ds =>
   simp only [zau] at r1
   obtain ⟨a, xs, rfl, q1, q2⟩ := r1
   exact ⟨a, xs, rfl, q1, by rw [<- q2.length]; exact z.1, ds, δ, S, q2, r2, r3, z.2⟩
  | non => exact z.elim
  | bl _ => exact z.elim
  | int _ => exact z.elim
  | str _ => exact z.elim
  | rol _ => exact z.elim
  | ref _ => exact z.elim
def zlE (te : TDE) (g : TDG) : TDS := fun E δ S => te δ S fun x S1 => g x δ S1 E.nx
theorem zlE.mo {g : TDG} (h : MoE te) (h' : MoG g) : MoS (zlE te g) := fun E E' δ S hE z => h δ S _ _ (fun x S1 q => h' x δ S1 _ _ (fun δ S q => hE.nx _ _ q) q) z
theorem zq6 {g : TDG} (h : MoE te) (h' : MoG g) {D : Ends} {σ : St} {H : Hp} (hu : upS K (zlE te g) D σ H) : zqY (upE K te) (upG K g) D σ H := by
 obtain ⟨δ, S, r1, r2, z⟩ := hu
 refine upE.go h r1 r2 z fun x S1 v H1 h1 q1 e1 p1 => ?_
 exact ⟨x, δ, S1, q1, r1.ext e1, p1, h' x δ S1 _ _ (fun δ S q => dnS.ext e1 q) h1⟩
theorem zob {tg e : Expr} {g : TDG} (he : PD X e te) (hg : PDG X tg g) (hs : swapsWithSole [tg] e pos.line X.env = pure false := by rfl) (hw : swappedStores [tg] e X.env = pure none := by rfl)
  (h1 : (assignEach [tg] X.env).map (·.2) = [assign tg X.env] := by rfl) : PDS X (.Assign [tg] e pos) (zlE te g) :=
 ⟨zlE.mo he.mo hg.mo, PS.imp (znk he.pe hg.pg hs hw h1) fun _ _ _ hu => zq6 he.mo hg.mo hu⟩
theorem zoa {e0 : Stmt} {i : Nat} (h : PS X e0 (zqY (upE X.K te) (zmM i))) (hm : MoE te) : PDS X e0 (zlE te (hName i)) := by
 refine ⟨zlE.mo hm fun _ _ _ _ _ hq z => hq _ _ z, PS.imp h fun D σ H hu => ?_⟩
 obtain ⟨δ, S, r1, r2, z⟩ := hu
 refine upE.go hm r1 r2 z fun x S1 v H1 h1 q1 e1 p1 => ?_
 exact h1 _ H1 ((r1.ext e1).set i q1) e1 p1
end
end L3
namespace L3
open PySem PySem.Spec L2
open PyProof.Rows hiding St
structure DIt where
 items : List D
 keep : SS -> Prop
abbrev TDI := StD -> SS -> (DIt -> SS -> Prop) -> Prop
def MoI (t : TDI) : Prop := ∀ δ S (Q Q' : DIt -> SS -> Prop), (∀ I S', Q I S' -> Q' I S') -> t δ S Q -> t δ S Q'
def zo1 (K : PySem.W.Frag) (H1 : Hp) (J : It) (I : DIt) : Prop := ∀ (i : Nat) (H : Hp) (S : SS), Ext H1 H -> zbV K H S -> I.keep S ->
 (∀ d, I.items[i]? = some d -> J.go i H /\ ∀ x H', J.yld i H x H' -> Ext H H' /\ zbV K H' S /\ zau K H' d x) /\ (I.items.length <= i -> J.stop i H)
def dnI (K : PySem.W.Frag) (H : Hp) (R : It -> Hp -> Prop) : DIt -> SS -> Prop := fun I S1 => ∀ J H1, Ext H H1 -> zbV K H1 S1 -> zo1 K H1 J I -> R J H1
def upI (K : PySem.W.Frag) (t : TDI) : TI := fun σ H R => ∃ δ S, zb6 K H δ σ /\ zbV K H S /\ t δ S (dnI K H R)
structure PDI (X : Cx) (tg iter : Expr) (t : TDI) : Prop where
 mo : MoI t
 pi : PI X tg iter (upI X.K t)
theorem PI.imp {X : Cx} {tg e : Expr} {t t' : TI} (h : PI X tg e t) (hi : ∀ σ H Q, t' σ H Q -> t σ H Q) : PI X tg e t' := fun pins s σ H Q I q => h pins s σ H Q I (hi σ H Q q)
section
variable {X : Cx} {K : PySem.W.Frag} {tg e : Expr} {te : TDE} {pos : Pos}
theorem zak.at {H : Hp} {ds : List D} {xs : List V} {i : Nat} {d : D} {x : V} (r : zak K H ds xs) (h1 : ds[i]? = some d) (h2 : xs[i]? = some x) : zau K H d x := by
 obtain ⟨y, e1, e2⟩ := r.get h1
 rw [h2] at e1; cases e1; exact e2
noncomputable def zc2 (lo : Int) (n : Nat) : List D := (List.range n).map fun (k : Nat) => D.int (lo + (k : Int))
theorem zjK {lo : Int} {n i : Nat} {d : D} (h : (zc2 lo n)[i]? = some d) : i < n /\ d = .int (lo + (i : Int)) := by
 unfold zc2 at h
 rw [List.getElem?_map] at h
 cases q : (List.range n)[i]? with
 | none => rw [q] at h; cases h
 | some j =>
  rw [q] at h
  obtain ⟨h1, h2⟩ := List.getElem?_eq_some_iff.mp q
  rw [List.length_range] at h1
  rw [List.getElem_range] at h2
  subst h2
  cases h
  exact ⟨h1, rfl⟩
theorem zjJ (lo : Int) (n : Nat) : (zc2 lo n).length = n := by unfold zc2; rw [List.length_map, List.length_range]
theorem zo1.range {H1 : Hp} {lo : Int} {n : Nat} : zo1 K H1 (Itr lo n) ⟨zc2 lo n, fun _ => True⟩ := fun i H S _ x2 _ => by
 refine ⟨fun d hd => ?_, fun hl => by rw [show (DIt.mk (zc2 lo n) fun _ => True).items = zc2 lo n from rfl, zjJ] at hl; exact hl⟩
 obtain ⟨h1, rfl⟩ := zjK hd
 refine ⟨h1, fun x H' q => ?_⟩
 obtain ⟨rfl, rfl⟩ := q
 exact ⟨.refl _, x2, by simp only [zau]⟩
def zoz (t : TDA) : TDI := fun δ S R => t δ S fun ds S1 => match ds with
 | [.int j] => (-(2 ^ 62) <= j /\ j < 2 ^ 62) /\ R ⟨zc2 0 j.toNat, fun _ => True⟩ S1
 | _ => False
def zoy (t : TDA) : TDI := fun δ S R => t δ S fun ds S1 => match ds with
 | [.int i, .int j] => (-(2 ^ 62) <= i /\ i < 2 ^ 62 /\ -(2 ^ 62) <= j /\ j < 2 ^ 62) /\ R ⟨zc2 i (j - i).toNat, fun _ => True⟩ S1
 | _ => False
variable {tA : TDA}
theorem zjP (h : PI X tg e (zqC (upA X.K tA))) (hm : MoA tA) : PDI X tg e (zoz tA) := by
 refine ⟨fun δ S Q Q' hq z => hm δ S _ _ (fun ds S1 z => ?_) z, PI.imp h fun σ H R hu => ?_⟩
 ·split at z
  ·exact ⟨z.1, hq _ _ z.2⟩
  ·exact z.elim
 ·obtain ⟨δ, S, r1, r2, z⟩ := hu
  refine upA.go hm r1 r2 z fun ds S1 xs H1 h1 q1 e1 p1 => ?_
  split at h1
  ·obtain ⟨x, rfl, q⟩ := q1.one
   simp only [zau] at q
   subst q
   exact ⟨_, rfl, h1.1.1, h1.1.2, h1.2 _ H1 e1 p1 .range⟩
  ·exact h1.elim
theorem zjO (h : PI X tg e (zqB (upA X.K tA))) (hm : MoA tA) : PDI X tg e (zoy tA) := by
 refine ⟨fun δ S Q Q' hq z => hm δ S _ _ (fun ds S1 z => ?_) z, PI.imp h fun σ H R hu => ?_⟩
 ·split at z
  ·exact ⟨z.1, hq _ _ z.2⟩
  ·exact z.elim
 ·obtain ⟨δ, S, r1, r2, z⟩ := hu
  refine upA.go hm r1 r2 z fun ds S1 xs H1 h1 q1 e1 p1 => ?_
  split at h1
  ·obtain ⟨x, y, rfl, q, q'⟩ := q1.two
   simp only [zau] at q q'
   subst q q'
   exact ⟨_, _, rfl, h1.1, h1.2 _ H1 e1 p1 .range⟩
  ·exact h1.elim
def zqN (ti : TDI) (g : TDG) (tb : TDS) : TDS := fun E δ S => ti δ S fun I S1 => ∃ W : Nat -> StD -> SS -> Prop, W 0 δ S1 /\ (∀ i δ S, W i δ S -> I.keep S) /\
 (∀ i d δ S, I.items[i]? = some d -> W i δ S -> g d δ S fun δ2 S2 => tb { E with nx := W (i + 1), ct := W (i + 1), bk := E.nx } δ2 S2) /\ ∀ δ S, W I.items.length δ S -> E.nx δ S
theorem zqN.mo {ti : TDI} {g : TDG} {tb : TDS} (hi : MoI ti) (hg : MoG g) (hb : MoS tb) : MoS (zqN ti g tb) := fun E E' δ S hE z => hi δ S _ _ (fun I S1 ⟨W, w0, wk, ws, wd⟩ => by
 refine ⟨W, w0, wk, fun i d δ S hd hw => hg d δ S _ _ (fun δ2 S2 z => hb { E with nx := W (i + 1), ct := W (i + 1), bk := E.nx } { E' with nx := W (i + 1), ct := W (i + 1), bk := E'.nx } δ2 S2 ⟨fun _ _ q => q, hE.rt, hE.nx, fun _ _ q => q⟩ z) (ws i d δ S hd hw), fun δ S q => hE.nx _ _ (wd δ S q)⟩) z
theorem zdQ {iter : Expr} {body : List Stmt} {ti : TDI} {g : TDG} {tb : TDS} (hp : PassesOwn (model X.prog X.w) X.A X.env X.xe) (hc : X.calm = true) (hi : PDI X tg iter ti) (hg : PDG X tg g) (hb : zl6 X body tb)
  (hs : ∀ x, foldedSetIterable iter X.env x = pure x := by intro _; rfl) : PDS X (.For tg iter body [] pos) (zqN ti g tb) := by
 refine ⟨zqN.mo hi.mo hg.mo hb.mo, PS.imp (zpD hp hc hi.pi hg.pg hb.ps hs) fun D σ H hu => ?_⟩
 obtain ⟨δ, S, r1, r2, z⟩ := hu
 refine ⟨δ, S, r1, r2, hi.mo δ S _ _ (fun I S1 hW J H1 e1 p1 rep => ?_) z⟩
 obtain ⟨W, w0, wk, ws, wd⟩ := hW
 refine ⟨fun i m σ H2 => m = I.items.length - i /\ i <= I.items.length /\ Ext H1 H2 /\ ∃ δ S, zb6 X.K H2 δ σ /\ zbV X.K H2 S /\ W i δ S, ⟨_, rfl, Nat.zero_le _, .refl _, δ, S1, r1.ext e1, p1, w0⟩, ?_⟩
 rintro i m σ2 H2 ⟨rfl, hi', x2, δ2, S2, q1, q2, w2⟩
 obtain ⟨g1, g2⟩ := rep i H2 S2 x2 q2 (wk i δ2 S2 w2)
 by_cases hl : i < I.items.length
 ·have hd : I.items[i]? = some I.items[i] := by simp [hl]
  obtain ⟨go, yl⟩ := g1 _ hd
  refine .inr ⟨go, fun σ' H' => Ext H1 H' /\ ∃ δ S, zb6 X.K H' δ σ' /\ zbV X.K H' S /\ W (i + 1) δ S, fun σ' H' q => ⟨_, by omega, rfl, hl, q⟩, fun x H3 hy => ?_⟩
  obtain ⟨x3, p3, d3⟩ := yl x H3 hy
  refine ⟨_, δ2, S2, d3, q1.ext x3, p3, hg.mo _ δ2 S2 _ _ (fun δ4 S4 z4 σ4 H4 a1 a2 a3 => ?_) (ws i _ δ2 S2 hd w2)⟩
  refine ⟨δ4, S4, a1, a3, hb.mo _ _ δ4 S4 ⟨fun δ5 S5 w5 σ5 H5 b1 b2 b3 => ⟨((x2.trans x3).trans a2).trans b2, δ5, S5, b1, b3, w5⟩, fun _ _ q => dnK.ext (((e1.trans x2).trans x3).trans a2) q, fun _ _ q => dnS.ext (((e1.trans x2).trans x3).trans a2) q, fun δ5 S5 w5 σ5 H5 b1 b2 b3 => ⟨((x2.trans x3).trans a2).trans b2, δ5, S5, b1, b3, w5⟩⟩ z4⟩
 ·have e : i = I.items.length := by omega
  subst e
  exact .inl ⟨g2 (Nat.le_refl _), wd δ2 S2 w2 σ2 H2 q1 (e1.trans x2) q2⟩
abbrev SpD := List D -> SS -> DK -> Prop
def MoP (sp : SpD) : Prop := ∀ ds S (Q Q' : DK), (∀ d S', Q d S' -> Q' d S') -> sp ds S Q -> sp ds S Q'
noncomputable def upP (K : PySem.W.Frag) (sp : SpD) : Sp := fun vs H Q _ => ∃ ds S, zak K H ds vs /\ zbV K H S /\ sp ds S (dnK K H Q)
def zoN (sp : SpD) (t : TDA) : TDE := fun δ S Q => t δ S fun ds S1 => sp ds S1 Q
theorem zof {sp : SpD} {E : XK} {e : Expr} (h : PE X e (zpi (upP X.K sp) [] E (upA X.K tA))) (hs : MoP sp) (hm : MoA tA) : PD X e (zoN sp tA) := by
 refine ⟨fun δ S Q Q' hq z => hm δ S _ _ (fun ds S1 z => hs ds S1 _ _ hq z) z, PE.imp h fun σ H Q hu => ?_⟩
 obtain ⟨δ, S, r1, r2, z⟩ := hu
 refine upA.go hm r1 r2 z fun ds S1 xs H1 h1 q1 e1 p1 => ?_
 rw [List.append_nil]
 exact ⟨ds, S1, q1, p1, hs ds S1 _ _ (fun d S' q => dnK.ext e1 q) h1⟩
noncomputable def zex (N : List Str) (ds : List D) : StD := ds.map some ++ List.replicate (N.length - ds.length) none
theorem zb6.init {H : Hp} {N : List Str} {ds : List D} {vs : List V} (r : zak K H ds vs) : zb6 K H (zex N ds) (start N vs) := by
 have hl := r.length
 refine ⟨by unfold zex L2.start; simp [hl], fun i d h => ?_⟩
 unfold zex at h
 have hi : i < ds.length := by
  rcases Nat.lt_or_ge i ds.length with q | q
  ·exact q
  ·rw [List.getElem?_append_right (by simpa using q), List.getElem?_replicate] at h
   split at h <;> cases h
 rw [List.getElem?_append_left (by simpa using hi), List.getElem?_map] at h
 cases q : ds[i]? with
 | none => rw [q] at h; cases h
 | some d' =>
  rw [q] at h
  cases h
  obtain ⟨x, e1, e2⟩ := r.get q
  refine ⟨x, ?_, e2⟩
  unfold L2.start
  rw [List.getElem?_append_left (by simpa using by omega), List.getElem?_map, e1]
  rfl
theorem zqD {P : Program} {w : World} {K : PySem.W.Frag} {mg : Str -> Option Value} {base : Heap} {x qual : Str} {st : Stmt} {f : Addr} {fd : FuncData} {N ps : List Str} {k : Nat} {sp : SpD} (F : Fun K x qual st f fd) (Sc : zaM N ps (zai st))
  (len : ∀ ds S Q, sp ds S Q -> ds.length = ps.length)
  (hbody : ∀ (cdv : Value) (A : Around) (outer : List Env) (s : Shared) (H : Hp) (E : XK), ze2 k (A.deeper (envOfC qual (zai st) s.heap.objs.size f cdv)) ->
   ∃ t, zl6 (zmS CX0 P w K mg base N qual (zai st) f cdv A outer s H E).nox (zaE st) t /\ ∀ ds S Q, sp ds S Q -> t { nx := fun _ S' => Q .non S', rt := Q } (zex N ds) S) : zkm P w K mg base CX0 (k + 1) f fd ps (upP K sp) := by
 refine F.ok Sc (fun vs H Q E h => ?_) fun cdv A outer s H vs Q E hr h => ?_
 ·obtain ⟨ds, S, r1, _, z⟩ := h
  rw [<- r1.length]; exact len _ _ _ z
 ·obtain ⟨ds, S, r1, r2, z⟩ := h
  obtain ⟨t, ht, hq⟩ := hbody cdv A outer s H E hr
  refine ⟨_, ht.ps, zex N ds, S, .init r1, r2, ht.mo { nx := fun _ S' => dnK K H Q .non S', rt := dnK K H Q } _ _ _ ⟨fun δ S' q σ' H' _ b c => q .non H' (by simp only [zau]) b c, fun _ _ q => q, fun _ _ q => False.elim q, fun _ _ q => False.elim q⟩ (hq ds S _ z)⟩
noncomputable def zfz (pick : List (Option Nat)) (δ : StD) : StD := pick.map fun o => o.bind fun i => (δ[i]?).join
theorem zb6.pick {H : Hp} {δ : StD} {σ : St} (r : zb6 K H δ σ) (pick : List (Option Nat)) : zb6 K H (zfz pick δ) (zdB pick σ) := by
 refine ⟨by unfold zfz zdB; simp, fun i d h => ?_⟩
 unfold zfz at h
 rw [List.getElem?_map] at h
 cases q : pick[i]? with
 | none => rw [q] at h; cases h
 | some o =>
  rw [q] at h
  cases o with
  | none => simp at h
  | some j =>
   simp only [Option.map_some, Option.bind_some, Option.some.injEq] at h
   have hj : δ[j]? = some (some d) := by
    cases q2 : δ[j]? with
    | none => rw [q2] at h; cases h
    | some o2 => rw [q2] at h; simp only [Option.join_some] at h; rw [h]
   obtain ⟨v, e1, e2⟩ := r.2 j d hj
   refine ⟨v, ?_, e2⟩
   unfold zdB
   rw [List.getElem?_map, q]
   simp [e1]
def zoW (δ δ' : StD) : Prop := δ.length = δ'.length /\ ∀ (i : Nat) d, δ[i]? = some (some d) -> δ'[i]? = some (some d)
theorem zoW.rep {H : Hp} {δ δ' : StD} {σ : St} (h : zoW δ δ') (r : zb6 K H δ' σ) : zb6 K H δ σ := ⟨h.1.trans r.1, fun i d q => r.2 i d (h.2 i d q)⟩
structure PDF (X : Cx) (ifs : List Expr) (t : TDT) : Prop where
 mo : MoT t
 pf : PF X ifs (upT X.K t)
theorem PF.imp {ifs : List Expr} {t t' : TT} (h : PF X ifs t) (hi : ∀ σ H Q, t' σ H Q -> t σ H Q) : PF X ifs t' := fun pins s σ H Q I q => h pins s σ H Q I (hi σ H Q q)
def zqG : TDT := fun _ S Q => Q true S
theorem zbW : PDF X [] zqG := ⟨fun _ _ _ _ hq z => hq _ _ z, PF.imp zpJ fun _ H _ ⟨_, _, _, r2, z⟩ => z H (.refl H) r2⟩
section
variable {N' : List Str} {pick : List (Option Nat)} {scope : Scope} {elt iter : Expr} {ifs : List Expr} {ti : TDI} {g : TDG} {tc : TDT}
end
end
end L3
namespace L2
open PySem PySem.Spec PyProof.Rows
def zsK (K : PySem.W.Frag) (tl : TE) : TI := fun σ H R => tl σ H fun x H1 => ∃ a, x = .ref a /\ (((∃ xs, SqL K H1 a xs) /\ R (Itl K a) H1) \/ ((∃ xs, SqT K H1 a xs) /\ R (Itt K a) H1))
theorem zpG {X : Cx} {tg l : Expr} {tl : TE} (hl : PE X l tl) : PI X tg l (zsK X.K tl) := by
 intro pins s σ H R I h
 refine thn (hl pins s σ H _ I h) fun v s1 ⟨x, H1, I1, r1, a, hx, q1⟩ => ?_
 subst hx
 cases r1
 have new : ∀ b ∈ [s1.heap.objs.size], zkg X pins H1 b := fun b hb => by
  obtain rfl : b = s1.heap.objs.size := List.mem_singleton.mp hb
  exact I1.zrE (Nat.le_refl _) (I1.hok.fresh (Nat.le_refl _))
 rcases q1 with ⟨⟨xs, hq⟩, q⟩ | ⟨⟨xs, hq⟩, q⟩
 ·obtain ⟨its, _, pl, _⟩ := I1.list hq
  exact wpAny_pyIter_list pl.isList ⟨_, _, _, _, H1, rfl, I1.kept (t' := s1.toks) fun b o eo => Heap.get?_push_of_some _ eo, zku a _, ⟨_, Heap.get?_push_size _ rfl, rfl, rfl⟩, new, q⟩
 ·obtain ⟨its, _, pt, _⟩ := I1.tuple hq
  exact wpAny_pyIter_tuple (show s1.heap.IsTuple a its.toArray from pt) ⟨_, _, _, _, H1, rfl, I1.kept (t' := s1.toks) fun b o eo => Heap.get?_push_of_some _ eo, zjy a _, ⟨_, Heap.get?_push_size _ rfl, rfl, rfl⟩, new, q⟩
theorem range_all (bs : List Bool) : (List.range bs.length).all (fun i => bs.getD i true) = bs.all id := by
 rw [Bool.eq_iff_iff, List.all_eq_true, List.all_eq_true]
 constructor
 ·intro h b hb
  obtain ⟨i, hi, rfl⟩ := List.mem_iff_getElem.mp hb
  have := h i (List.mem_range.mpr hi)
  simpa [hi] using this
 ·intro h i hi
  have hi' := List.mem_range.mp hi
  have := h bs[i] (List.getElem_mem hi')
  simpa [hi'] using this
theorem zmW {bs : List Bool} {its : List Value} (r : Vals (bs.map V.bl) its) {i : Nat} {v : Value} (h : its.toArray[i]? = some v) : v = .bool (bs.getD i true) := by
 have hl := r.length
 rw [List.length_map] at hl
 have h' : its[i]? = some v := by simpa using h
 have hi : i < bs.length := by
  rw [hl]
  rcases Nat.lt_or_ge i its.length with q | q
  ·exact q
  ·rw [List.getElem?_eq_none q] at h'; cases h'
 obtain ⟨u, e1, e2⟩ := r.get (i := i) (x := .bl bs[i]) (by simp [hi])
 rw [h'] at e1; cases e1
 have : v = .bool bs[i] := e2
 rw [this]
 simp [hi]
section
variable {X : Cx}
theorem zlM (hc : X.calm = true) : zcf X (.builtin "all") (fun xs H Q => ∃ p, ∃ bs : List Bool, xs = [.ref p] /\ SqL X.K H p (bs.map V.bl) /\ Q (.bl (bs.all id)) H) := by
 intro pins s σ H xs us Q I r h
 obtain ⟨p, bs, rfl, hq, q⟩ := h
 obtain ⟨u, rfl, ru⟩ := vals1 r
 cases ru
 obtain ⟨its, rv, pl, hz⟩ := I.list hq
 have hl := rv.length
 rw [List.length_map] at hl
 have hlt : p < s.heap.objs.size := by obtain ⟨o, n, e, _⟩ := pl; exact Heap.lt_size e
 refine call_all_walk (wpAny_pyIter_list pl.isList ?_)
 refine ⟨s.heap.objs.size, _, _, _, _, _, fun i => bs.getD i true, rfl, Walks.list (A := X.A.in1) (I.ok.hd hc) s.heap.objs.size p (Nat.ne_of_lt hlt) its.toArray, ⟨⟨_, Heap.get?_push_size _ rfl, rfl, rfl⟩, pl.isList.push _⟩, fun i v s' Q' E' hv hq' => ?_, fun h' tk hk => ?_⟩
 ·rw [zmW rv hv]
  exact wpAny_truthy_bool hq'
 ·have e : (List.range its.toArray.size).all (fun i => bs.getD i true) = bs.all id := by rw [List.size_toArray, <- hl, range_all]
  rw [e]
  exact ⟨.bl _, H, I.kept (t' := tk) fun b o eo => hk b o (by simpa using Nat.ne_of_lt (Heap.lt_size eo)) (Heap.get?_push_of_some _ eo), rfl, q⟩
end
end L2
namespace L3
open PySem PySem.Spec L2
open PyProof.Rows hiding St
structure Bt (mg : Str -> Option Value) : Prop where
 len : mg "len" = none
 range : mg "range" = none
 any : mg "any" = none
 all : mg "all" = none
 sorted : mg "sorted" = none
 isinstance : mg "isinstance" = none
 bool : mg "bool" = none
 int : mg "int" = none
 str : mg "str" = none
 list : mg "list" = none
 tuple : mg "tuple" = none
 max : mg "max" = none
 min : mg "min" = none
section
variable {X : Cx} {K : PySem.W.Frag} {a b c e : Expr} {es : List Expr} {ta tb tc te : TDE} {tA : TDA} {pos p : Pos}
theorem csc {N' : List Str} {pick : List (Option Nat)} {scope esc : Scope} {N : List Str} (hE : X.env.scope = esc := by rfl) (hN : X.N = N := by rfl) (h1 : scope.kind = .function := by rfl) (h2 : scope.names.all (fun y => decide (y.2 ≠ .cell)) = true := by decide +kernel)
  (h3 : scope.names.all (fun y => !decide (y.2 = .local) || decide (scope.names.lookup y.1 = some .local)) = true := by decide +kernel)
  (h4 : scope.names.all (fun y => !decide (y.2 = .free) || (decide (esc.names.lookup y.1 = some .cell) || decide (esc.names.lookup y.1 = some .free))) = true := by decide +kernel)
  (h5 : pick.length = N'.length := by rfl) (h6 : zgy N N' pick scope = true := by decide +kernel) : zit X N' pick scope := by
 refine ⟨h1, fun y hy => ?_, fun y hy hl => ?_, fun y hy hf => ?_, h5, by rw [hN]; exact h6⟩
 ·exact of_decide_eq_true (List.all_eq_true.mp h2 y hy)
 ·have := List.all_eq_true.mp h3 y hy
  rw [decide_eq_true hl] at this
  simpa using this
 ·have := List.all_eq_true.mp h4 y hy
  rw [decide_eq_true hf] at this
  rw [hE]
  simpa using this
theorem zbl (i : Nat) {x : Str} (hN : X.N.Nodup) (hi : X.N[i]? = some x := by rfl) (hx : Loc X.env.scope x := by first | exact Or.inl rfl | exact Or.inr rfl) (hf : X.fn x = true \/ X.env.scope.names.lookup x = some .local := by first | exact .inl rfl | exact .inr rfl) : PDG X (.Name x pos) (hName i) :=
 zmu (zn6 hN hi hx hf)
theorem zkX {k : Nat} {t : ziw} {n : Nat} (h : zq1 X es t) (hc : X.calm = true := by rfl) (hn : (assignEach es X.env).length = n := by rfl) (hst : (assignEach es X.env).findIdx? (·.1) = none := by rfl) : PDG X (.Tuple es k pos) (zqZ n t) :=
 zoc (zpH hc h.pg hn hst) h.mo
theorem zaK (i : Nat) {x : Str} {pos' : Pos} (hN : X.N.Nodup) (he : PD X e te) (hi : X.N[i]? = some x := by rfl) (hx : Loc X.env.scope x := by first | exact Or.inl rfl | exact Or.inr rfl) (hs : swapsWith e (some (.Name x pos')) pos.line X.env = pure false := by rfl)
  (hf : X.fn x = true \/ X.env.scope.names.lookup x = some .local := by first | exact .inl rfl | exact .inr rfl) : PDS X (.Assign [.Name x pos'] e pos) (zlE te (hName i)) :=
 zoa (zpB hN hi hx he.pe hs hf) he.mo
def zrz (te : TDE) : TDI := fun δ S R => te δ S fun x S1 => match x with
 | .tup ds => R ⟨ds, fun _ => True⟩ S1
 | .rol ds => R ⟨ds, fun _ => True⟩ S1
 | .ref p => match S1 p with
  | some (.lst ds) => R ⟨ds, fun S => S p = some (.lst ds)⟩ S1
  | _ => False
 | _ => False
theorem zcK {tg : Expr} (h : PD X e te) : PDI X tg e (zrz te) := by
 refine ⟨fun δ S Q Q' hq z => h.mo δ S _ _ (fun x S1 z => ?_) z, ?_⟩
 ·cases x with
  | ref p =>
   dsimp only at z ⊢
   split at z
   ·exact hq _ _ z
   ·exact z.elim
  | rol ds => exact hq _ _ z
  | tup ds => exact hq _ _ z
  | _ => exact z
 ·refine PI.imp (zpG h.pe) fun σ H R hu => ?_
  obtain ⟨δ, S, r1, r2, z⟩ := hu
  refine upE.go h.mo r1 r2 z fun x S1 v H1 h1 q1 e1 p1 => ?_
  cases x with
  | tup ds =>
   simp only [zau] at q1
   obtain ⟨a, xs, rfl, g1, g2⟩ := q1
   refine ⟨a, rfl, .inr ⟨⟨xs, g1⟩, h1 _ H1 e1 p1 fun i H2 S2 x1 x2 _ => ⟨fun d hd => ?_, fun hl => ⟨xs, x1.sqt g1, by rw [<- g2.length]; exact hl⟩⟩⟩⟩
   obtain ⟨y, hy, _⟩ := g2.get hd
   refine ⟨⟨xs, y, x1.sqt g1, hy⟩, fun x H' q => ?_⟩
   obtain ⟨rfl, q⟩ := q
   exact ⟨.refl _, x2, (zak.ext x1 ds g2).at hd (q xs (x1.sqt g1))⟩
  | ref p =>
   dsimp only at h1
   split at h1
   ·rename_i ds e2
    simp only [zau] at q1
    subst q1
    obtain ⟨xs0, g1, _⟩ := p1 _ _ e2
    refine ⟨p, rfl, .inl ⟨⟨xs0, SqL.of g1⟩, h1 _ H1 e1 p1 fun i H2 S2 x1 x2 hk => ?_⟩⟩
    obtain ⟨xs, g3, g4⟩ := x2 _ _ hk
    refine ⟨fun d hd => ?_, fun hl => ⟨xs, SqL.of g3, by rw [<- g4.length]; exact hl⟩⟩
    obtain ⟨y, hy, _⟩ := g4.get hd
    refine ⟨⟨xs, y, SqL.of g3, hy⟩, fun x H' q => ?_⟩
    obtain ⟨rfl, q⟩ := q
    exact ⟨.refl _, x2, g4.at hd (q xs (SqL.of g3))⟩
   ·exact h1.elim
  | rol ds =>
   simp only [zau] at q1
   obtain ⟨a, xs, rfl, g1, g2⟩ := q1
   refine ⟨a, rfl, .inl ⟨⟨xs, g1.sq⟩, h1 _ H1 e1 p1 fun i H2 S2 x1 x2 _ => ⟨fun d hd => ?_, fun hl => ⟨xs, (x1.sqf g1).sq, by rw [<- g2.length]; exact hl⟩⟩⟩⟩
   obtain ⟨y, hy, _⟩ := g2.get hd
   refine ⟨⟨xs, y, (x1.sqf g1).sq, hy⟩, fun x H' q => ?_⟩
   obtain ⟨rfl, q⟩ := q
   exact ⟨.refl _, x2, (zak.ext x1 ds g2).at hd (q xs (x1.sqf g1).sq)⟩
  | non => exact h1.elim
  | bl _ => exact h1.elim
  | int _ => exact h1.elim
  | str _ => exact h1.elim
end
end L3
namespace L4
open PySem PySem.W PyProof.Rows
noncomputable def Tot {α : Type} (n : Nat) (lt : Nat -> Nat -> Bool) : KasT α -> (α -> Prop) -> Prop
 | .ret a, Q => Q a
 | .ask i j k, Q => i < n /\ j < n /\ Tot n lt (k (lt i j)) Q
theorem Tot.mono {α : Type} {n : Nat} {lt : Nat -> Nat -> Bool} {Q Q' : α -> Prop} (hq : ∀ a, Q a -> Q' a) : ∀ {t : KasT α}, Tot n lt t Q -> Tot n lt t Q'
 | .ret _, h => hq _ h
 | .ask _ _ _, h => ⟨h.1, h.2.1, Tot.mono hq h.2.2⟩
theorem Tot.bind {α β : Type} {n : Nat} {lt : Nat -> Nat -> Bool} {f : α -> KasT β} {Q : β -> Prop} : ∀ {t : KasT α}, Tot n lt t (fun a => Tot n lt (f a) Q) -> Tot n lt (t.bind f) Q
 | .ret _, h => h
 | .ask _ _ _, h => ⟨h.1, h.2.1, Tot.bind h.2.2⟩
section
variable {n : Nat} {lt : Nat -> Nat -> Bool}
def Le (lt : Nat -> Nat -> Bool) (a b : Nat) : Prop := lt b a = false
structure Ord (lt : Nat -> Nat -> Bool) : Prop where
 tr : ∀ a b c, Le lt a b -> Le lt b c -> Le lt a c
 as : ∀ a b, lt a b = true -> Le lt a b
theorem Ord.refl (o : Ord lt) (a : Nat) : Le lt a a := by
 cases h : lt a a with
 | false => exact h
 | true => exact o.as a a h
def OkP (n : Nat) (p : Array Nat) : Prop := p.Perm (List.range n).toArray
theorem OkP.size {p : Array Nat} (h : OkP n p) : p.size = n := by rw [Array.Perm.size_eq h]; simp
theorem OkP.below {p : Array Nat} (h : OkP n p) {i : Nat} (hi : i < n) : p.getD i 0 < n := by
 have hs := h.size
 have hm : p.getD i 0 ∈ p := by
  rw [Array.getD_eq_getD_getElem?, Array.getElem?_eq_getElem (by omega)]
  exact Array.getElem_mem (by omega)
 have : p.getD i 0 ∈ (List.range n).toArray := (Array.Perm.mem_iff h).mp hm
 simpa using this
theorem zf8 {p q : Array Nat} {i j : Nat} (h : p[i]? = q[j]?) : p.getD i 0 = q.getD j 0 := by rw [Array.getD_eq_getD_getElem?, Array.getD_eq_getD_getElem?, h]
def Srt (lt : Nat -> Nat -> Bool) (p : Array Nat) (k : Nat) : Prop := ∀ i j, i <= j -> j < k -> Le lt (p.getD i 0) (p.getD j 0)
def Dsc (lt : Nat -> Nat -> Bool) (p : Array Nat) (k : Nat) : Prop := ∀ i j, i <= j -> j < k -> Le lt (p.getD j 0) (p.getD i 0)
theorem Srt.next (o : Ord lt) {p : Array Nat} {k : Nat} (h : Srt lt p k) (hk : 1 <= k) (hl : Le lt (p.getD (k - 1) 0) (p.getD k 0)) : Srt lt p (k + 1) := fun i j hij hj => by
 by_cases hjk : j < k
 ·exact h i j hij hjk
 ·have e : j = k := by omega
  subst e
  by_cases hi : i = j
  ·subst hi; exact o.refl _
  ·exact o.tr _ _ _ (h i (j - 1) (by omega) (by omega)) hl
theorem Dsc.next (o : Ord lt) {p : Array Nat} {k : Nat} (h : Dsc lt p k) (hk : 1 <= k) (hl : Le lt (p.getD k 0) (p.getD (k - 1) 0)) : Dsc lt p (k + 1) := fun i j hij hj => by
 by_cases hjk : j < k
 ·exact h i j hij hjk
 ·have e : j = k := by omega
  subst e
  by_cases hi : i = j
  ·subst hi; exact o.refl _
  ·exact o.tr _ _ _ hl (h i (j - 1) (by omega) (by omega))
theorem ziX (o : Ord lt) {p : Array Nat} (hp : OkP n p) : ∀ (f a : Nat), 1 <= a -> a + f <= n -> Srt lt p a ->
  Tot n lt (kas_asc p f a) fun m => a <= m /\ m <= a + f /\ Srt lt p m /\ (m = a + f \/ lt (p.getD m 0) (p.getD (m - 1) 0) = true)
 | 0, a, _, _, hs => ⟨Nat.le_refl _, Nat.le_refl _, hs, .inl rfl⟩
 | f + 1, a, h1, h2, hs => by
  refine ⟨hp.below (by omega), hp.below (by omega), ?_⟩
  cases c : lt (p.getD a 0) (p.getD (a - 1) 0) with
  | true => exact ⟨Nat.le_refl _, by omega, hs, .inr c⟩
  | false =>
   refine Tot.mono ?_ (ziX o hp f (a + 1) (by omega) (by omega) (hs.next o h1 c))
   rintro m ⟨g1, g2, g3, g4⟩
   exact ⟨by omega, by omega, g3, g4.imp (fun e => by omega) id⟩
theorem zhJ {p : Array Nat} (hp : OkP n p) (i j : Nat) : OkP n (kas_rev p i j) := Array.Perm.trans (mirror_perm _ _ _ _) hp
theorem zhK {p : Array Nat} (hp : OkP n p) {i j : Nat} (hj : j <= n) (k : Nat) : (kas_rev p i j).getD k 0 = if i <= k /\ k < j then p.getD (i + j - 1 - k) 0 else p.getD k 0 := by
 have e := getElem?_mirror_all (xs := p) (i := i) (j := j) (by rw [hp.size]; exact hj) k
 split
 ·rename_i h; rw [if_pos h] at e; exact zf8 e
 ·rename_i h; rw [if_neg h] at e; exact zf8 e
theorem rev_eq (o : Ord lt) {p : Array Nat} (hp : OkP n p) {i j : Nat} (hj : j <= n) (he : ∀ a b, i <= a -> a < j -> i <= b -> b < j -> Le lt (p.getD a 0) (p.getD b 0)) (k : Nat) :
  Le lt ((kas_rev p i j).getD k 0) (p.getD k 0) /\ Le lt (p.getD k 0) ((kas_rev p i j).getD k 0) := by
 rw [zhK hp hj]
 split
 ·rename_i h; exact ⟨he _ _ (by omega) (by omega) h.1 h.2, he _ _ h.1 h.2 (by omega) (by omega)⟩
 ·exact ⟨o.refl _, o.refl _⟩
theorem Dsc.of_eq (o : Ord lt) {p q : Array Nat} {k : Nat} (h : Dsc lt p k) (e : ∀ k, Le lt (q.getD k 0) (p.getD k 0) /\ Le lt (p.getD k 0) (q.getD k 0)) : Dsc lt q k := fun i j hij hj =>
 o.tr _ _ _ (e j).1 (o.tr _ _ _ (h i j hij hj) (e i).2)
def Blk (lt : Nat -> Nat -> Bool) (p : Array Nat) (m q : Nat) : Prop := ∀ a b, m - (q + 1) <= a -> a < m -> m - (q + 1) <= b -> b < m -> Le lt (p.getD a 0) (p.getD b 0)
theorem zfJ (o : Ord lt) : ∀ (f : Nat) (p : Array Nat) (m q : Nat), OkP n p -> 1 <= m -> m + f <= n -> Dsc lt p m -> q + 1 <= m -> Blk lt p m q ->
  Tot n lt (kas_desc f p m q) fun r => OkP n r.1 /\ m <= r.2.1 /\ r.2.1 <= m + f /\ Dsc lt r.1 r.2.1 /\ r.2.2 + 1 <= r.2.1 /\ Blk lt r.1 r.2.1 r.2.2
 | 0, p, m, q, hp, _, _, hd, hq, hb => ⟨hp, Nat.le_refl _, Nat.le_refl _, hd, hq, hb⟩
 | f + 1, p, m, q, hp, h1, h2, hd, hq, hb => by
  have one : ∀ p' : Array Nat, Blk lt p' (m + 1) 0 := fun p' a b a1 a2 b1 b2 => by
   have : a = b := by omega
   subst this; exact o.refl _
  refine ⟨hp.below (by omega), hp.below (by omega), ?_⟩
  cases c : lt (p.getD m 0) (p.getD (m - 1) 0) with
  | true =>
   dsimp only
   rw [if_pos rfl]
   have hl := o.as _ _ c
   by_cases h0 : q > 0
   ·rw [if_pos h0]
    have e := rev_eq o hp (i := m - (q + 1)) (j := m) (by omega) hb
    have hp' := zhJ hp (m - (q + 1)) m
    refine Tot.mono ?_ (zfJ o f _ (m + 1) 0 hp' (by omega) (by omega) ((hd.of_eq o e).next o h1 (o.tr _ _ _ (e m).1 (o.tr _ _ _ hl (e (m - 1)).2))) (by omega) (one _))
    rintro r ⟨a1, a2, a3, a4⟩
    exact ⟨a1, by omega, by omega, a4⟩
   ·rw [if_neg h0]
    refine Tot.mono ?_ (zfJ o f _ (m + 1) 0 hp (by omega) (by omega) (hd.next o h1 hl) (by omega) (one _))
    rintro r ⟨a1, a2, a3, a4⟩
    exact ⟨a1, by omega, by omega, a4⟩
  | false =>
   dsimp only
   rw [if_neg Bool.false_ne_true]
   refine ⟨hp.below (by omega), hp.below (by omega), ?_⟩
   cases d : lt (p.getD (m - 1) 0) (p.getD m 0) with
   | true => exact ⟨hp, Nat.le_refl _, (by show m <= m + (f + 1); omega), hd, hq, hb⟩
   | false =>
    dsimp only
    rw [if_neg Bool.false_ne_true]
    refine Tot.mono ?_ (zfJ o f _ (m + 1) (q + 1) hp (by omega) (by omega) (hd.next o h1 d) (by omega) fun a b a1 a2 b1 b2 => ?_)
    ·rintro r ⟨a1, a2, a3, a4⟩
     exact ⟨a1, by omega, by omega, a4⟩
    ·by_cases ha : a = m
     ·by_cases hb' : b = m
      ·subst ha; subst hb'; exact o.refl _
      ·subst ha; exact o.tr _ _ _ d (hb (a - 1) b (by omega) (by omega) (by omega) (by omega))
     ·by_cases hb' : b = m
      ·subst hb'; exact o.tr _ _ _ (hb a (b - 1) (by omega) (by omega) (by omega) (by omega)) c
      ·exact hb a b (by omega) (by omega) (by omega) (by omega)
theorem zhB (o : Ord lt) {p : Array Nat} {m : Nat} (hp : OkP n p) (h1 : 1 <= m) (h2 : m <= n) (hd : Dsc lt p m) : Tot n lt (kas_tail3 m n p) fun r => OkP n r.2 /\ r.1 <= n /\ Srt lt r.2 r.1 := by
 refine Tot.bind (Tot.mono ?_ (ziX o (zhJ hp 0 m) (n - m) m h1 (by omega) fun i j hij hj => ?_))
 ·rintro k ⟨a1, a2, a3, _⟩
  exact ⟨zhJ hp 0 m, by omega, a3⟩
 ·rw [zhK hp h2, zhK hp h2, if_pos ⟨Nat.zero_le _, by omega⟩, if_pos ⟨Nat.zero_le _, hj⟩]
  exact hd _ _ (by omega) (by omega)
theorem zft (o : Ord lt) {p : Array Nat} {m : Nat} (hp : OkP n p) (h1 : 1 <= m) (h2 : m < n) (hd : Dsc lt p m) (hl : lt (p.getD m 0) (p.getD (m - 1) 0) = true) : Tot n lt (kas_descPart m n p) fun r => OkP n r.2 /\ r.1 <= n /\ Srt lt r.2 r.1 := by
 refine Tot.bind (Tot.mono ?_ (zfJ o (n - (m + 1)) p (m + 1) 0 hp (by omega) (by omega) (hd.next o h1 (o.as _ _ hl)) (by omega) fun a b a1 a2 b1 b2 => ?_))
 ·rintro ⟨p', m', q'⟩ ⟨a1, a2, a3, a4, a5, a6⟩
  dsimp only at a1 a2 a3 a4 a5 a6 ⊢
  by_cases h0 : q' > 0
  ·rw [if_pos h0]
   exact zhB o (zhJ a1 _ _) (by omega) (by omega) (a4.of_eq o (rev_eq o a1 (i := m' - (q' + 1)) (j := m') (by omega) a6))
  ·rw [if_neg h0]
   exact zhB o a1 (by omega) (by omega) a4
 ·have : a = b := by omega
  subst this; exact o.refl _
theorem zlG (o : Ord lt) {p : Array Nat} (hp : OkP n p) (h1 : 1 <= n) : Tot n lt (kas_count n p) fun r => OkP n r.2 /\ r.1 <= n /\ Srt lt r.2 r.1 := by
 refine Tot.bind (Tot.mono ?_ (ziX o hp (n - 1) 1 (Nat.le_refl _) (by omega) fun i j hij hj => ?_))
 ·rintro m ⟨a1, a2, a3, a4⟩
  by_cases hm : m = n
  ·rw [if_pos (by simp [hm])]
   exact ⟨hp, by omega, a3⟩
  ·rw [if_neg (by simp [hm])]
   have hl : lt (p.getD m 0) (p.getD (m - 1) 0) = true := a4.resolve_left (by omega)
   by_cases h2 : m > 1
   ·rw [if_pos h2]
    refine ⟨hp.below (by omega), hp.below (by omega), ?_⟩
    cases c : lt (p.getD 0 0) (p.getD (m - 1) 0) with
    | true => exact ⟨hp, by omega, a3⟩
    | false =>
     dsimp only
     rw [if_neg Bool.false_ne_true]
     have all : ∀ a b, 0 <= a -> a < m -> 0 <= b -> b < m -> Le lt (p.getD a 0) (p.getD b 0) := fun a b _ ha _ hb =>
      o.tr _ _ _ (a3 a (m - 1) (by omega) (by omega)) (o.tr _ _ _ c (a3 0 b (by omega) hb))
     have e := rev_eq o hp (i := 0) (j := m) (by omega) all
     refine zft o (zhJ hp 0 m) (by omega) (by omega) (fun i j hij hj => o.tr _ _ _ (e j).1 (o.tr _ _ _ (all _ _ (Nat.zero_le _) hj (Nat.zero_le _) (by omega)) (e i).2)) ?_
     rw [zhK hp (by omega), zhK hp (by omega), if_neg (by omega), if_pos (by omega)]
     cases q : lt (p.getD m 0) (p.getD (0 + m - 1 - (m - 1)) 0) with
     | true => rfl
     | false =>
      have := o.tr _ _ _ (all (m - 1) (0 + m - 1 - (m - 1)) (Nat.zero_le _) (by omega) (Nat.zero_le _) (by omega)) q
      unfold Le at this
      rw [this] at hl; cases hl
   ·rw [if_neg h2]
    have e : m = 1 := by omega
    subst e
    refine zft o hp (Nat.le_refl _) (by omega) (fun i j hij hj => ?_) hl
    have : i = j := by omega
    subst this; exact o.refl _
 ·have : i = j := by omega
  subst this; exact o.refl _
theorem zfS {p : Array Nat} {k : Nat} (hp : OkP n p) (hk : k < n) (hs : Srt lt p k) (o : Ord lt) : ∀ (f l r : Nat), r - l <= f -> l <= r -> r <= k -> (∀ i, i < l -> Le lt (p.getD i 0) (p.getD k 0)) -> (∀ i, r <= i -> i < k -> lt (p.getD k 0) (p.getD i 0) = true) ->
  Tot n lt (kas_place p k f l r) fun m => m <= k /\ (∀ i, i < m -> Le lt (p.getD i 0) (p.getD k 0)) /\ (∀ i, m <= i -> i < k -> lt (p.getD k 0) (p.getD i 0) = true)
 | 0, l, r, h0, h1, h2, ha, hb => by
  have : l = r := by omega
  subst this
  exact ⟨h2, ha, hb⟩
 | f + 1, l, r, h0, h1, h2, ha, hb => by
  unfold kas_place
  by_cases hlr : l ≥ r
  ·rw [if_pos hlr]
   have : l = r := by omega
   subst this
   exact ⟨h2, ha, hb⟩
  ·rw [if_neg hlr]
   refine ⟨hp.below hk, hp.below (by omega), ?_⟩
   cases c : lt (p.getD k 0) (p.getD ((l + r) / 2) 0) with
   | true =>
    dsimp only
    rw [if_pos rfl]
    refine zfS hp hk hs o f l ((l + r) / 2) (by omega) (by omega) (by omega) ha fun i hi hik => ?_
    cases q : lt (p.getD k 0) (p.getD i 0) with
    | true => rfl
    | false =>
     have := o.tr _ _ _ (hs ((l + r) / 2) i hi hik) q
     unfold Le at this
     rw [this] at c; cases c
   | false =>
    dsimp only
    rw [if_neg Bool.false_ne_true]
    refine zfS hp hk hs o f ((l + r) / 2 + 1) r (by omega) (by omega) h2 (fun i hi => ?_) hb
    exact o.tr _ _ _ (hs i ((l + r) / 2) (by omega) (by omega)) c
theorem zlN (o : Ord lt) : ∀ (f : Nat) (p : Array Nat) (k : Nat), OkP n p -> k + f = n -> Srt lt p k -> Tot n lt (kas_bin f p k) fun r => OkP n r /\ Srt lt r n
 | 0, p, k, hp, h1, hs => by
  have : k = n := by omega
  subst this
  exact ⟨hp, hs⟩
 | f + 1, p, k, hp, h1, hs => by
  refine Tot.bind (Tot.mono ?_ (zfS hp (by omega) hs o k 0 k (by omega) (Nat.zero_le _) (Nat.le_refl _) (fun i hi => absurd hi (Nat.not_lt_zero _)) fun i hi hik => absurd hik (by omega)))
  rintro l ⟨a1, a2, a3⟩
  refine zlN o f _ (k + 1) (Array.Perm.trans (bubble_perm _ _ _) hp) (by omega) fun i j hij hj => ?_
  have ev : ∀ x, (bubble p k (k - l)).getD x 0 = if x = l then p.getD k 0 else if l < x /\ x <= k then p.getD (x - 1) 0 else p.getD x 0 := fun x => by
   have e := getElem?_bubble (xs := p) (src := k) (by rw [hp.size]; omega) (k - l) (by omega) x
   rw [show k - (k - l) = l by omega] at e
   split
   ·rename_i h; rw [if_pos h] at e; exact zf8 e
   ·rename_i h
    rw [if_neg h] at e
    split
    ·rename_i h'; rw [if_pos h'] at e; exact zf8 e
    ·rename_i h'; rw [if_neg h'] at e; exact zf8 e
  rw [ev i, ev j]
  by_cases hi : i = l
  ·rw [if_pos hi]
   by_cases hj' : j = l
   ·rw [if_pos hj']; exact o.refl _
   ·rw [if_neg hj', if_pos ⟨by omega, by omega⟩]
    exact o.as _ _ (a3 (j - 1) (by omega) (by omega))
  ·rw [if_neg hi]
   by_cases hj' : j = l
   ·rw [if_pos hj', if_neg (by omega)]
    exact a2 i (by omega)
   ·rw [if_neg hj']
    by_cases hi2 : l < i /\ i <= k
    ·rw [if_pos hi2, if_pos ⟨by omega, by omega⟩]
     exact hs _ _ (by omega) (by omega)
    ·rw [if_neg hi2]
     by_cases hj2 : l < j /\ j <= k
     ·rw [if_pos hj2]
      exact hs _ _ (by omega) (by omega)
     ·rw [if_neg hj2]
      exact hs _ _ hij (by omega)
theorem zmc (o : Ord lt) (h1 : 1 <= n) : Tot n lt (kas_sort n) fun r => OkP n r /\ Srt lt r n := by
 have hp : OkP n (List.range n).toArray := Array.Perm.refl _
 refine Tot.bind (Tot.mono ?_ (zlG o hp h1))
 rintro ⟨m, p⟩ ⟨a1, a2, a3⟩
 dsimp only at a1 a2 a3 ⊢
 by_cases hm : m < n
 ·rw [if_pos hm]
  refine zlN o _ p (max m 1) a1 (by omega) ?_
  by_cases h0 : m = 0
  ·subst h0
   intro i j hij hj
   have : i = j := by omega
   subst this; exact o.refl _
  ·rw [show max m 1 = m by omega]; exact a3
 ·rw [if_neg hm]
  have : m = n := by omega
  subst this
  exact ⟨a1, a3⟩
end
end L4
namespace L4
open PySem PySem.W PySem.Calls PyProof.Rows
section
variable {prog : Program} {w : World} {A : Around} {E : Value -> Shared -> Prop} {s : Shared}
def Core (prog : Program) (w : World) (A : Around) (E : Value -> Shared -> Prop) (vs : List Value) (Out : Array Value -> Prop) (s6 : Shared) : Prop :=
 wpAny (model prog w) A (keyKind' vs.toArray) (fun κ s' => s' = s6 /\ wpAny (model prog w) A ((sortRuns').run (SortSt.mk' κ (vs.toArray.zip vs.toArray) #[] 7 none))
  (fun r s'' => s'' = s6 /\ failedOf r.2 = none /\ Out ((arrOf r.2).map (·.2)) /\ (arrOf r.2).size = vs.length) E s') E s6
theorem zdT {a : Addr} {vs : List Value} {n : Nat} {P : PySem.Fin -> Shared -> Prop} {Out : Array Value -> Prop} (ho : s.heap.get? a = some (seqObj "list" vs.toArray n)) (hz : vs.length <= sizeLine)
  (core : 2 <= vs.length -> ∀ s6 : Shared, (∀ b o, b ≠ a -> s.heap.get? b = some o -> s6.heap.get? b = some o) -> Core prog w A E vs Out s6) (short : vs.length < 2 -> Out vs.toArray)
  (fin : ∀ out : Array Value, Out out -> out.size = vs.length -> P (.done (.ret .none)) { s with heap := sortedHeap s.heap a vs out }) :
  wpAny (model prog w) A (Builtin.«list.sort» ⟨[.ref a], []⟩) P E s := by
 have ha : a < s.heap.objs.size := Heap.lt_size ho
 obtain ⟨e1, g1⟩ : ∃ e1, (s.heap.update a (Obj.mapSeq fun _ => #[])).get? a = some (seqObj "list" #[] e1) := ⟨_, get?_update_seq ho (fun _ => #[])⟩
 have hz' : vs.toArray.size <= sizeLine := by rw [List.size_toArray]; exact hz
 have g6 : (((s.heap.update a (Obj.mapSeq fun _ => #[])).push (seqObj "tuple" vs.toArray 0)).push (seqObj "list" #[] 0)).get? a = some (seqObj "list" #[] e1) := Heap.get?_push_of_some _ (Heap.get?_push_of_some _ g1)
 have keep : ∀ b o, b ≠ a -> s.heap.get? b = some o -> (((s.heap.update a (Obj.mapSeq fun _ => #[])).push (seqObj "tuple" vs.toArray 0)).push (seqObj "list" #[] 0)).get? b = some o :=
  fun b o hb e => Heap.get?_push_of_some _ (Heap.get?_push_of_some _ (by rw [Heap.get?_update_ne _ _ _ _ hb]; exact e))
 rw [list_sort_plain]
 refine wpAny_bind (listItems_at ho rfl (wpAny_bind (listUpdate_at ho rfl (wpAny_bind (seqEpoch_at g1 rfl (wpAny_bind (wpAny_newTuple (wpAny_bind (wpAny_newList (wpAny_holding ?_))) (by simpa using hz))))) hz' (Nat.zero_le _))))
 by_cases h2 : vs.toArray.size < 2
 ·rw [if_pos h2, if_pos h2]
  have e2 : (arrOf (SortSt.mk' general' (vs.toArray.zip vs.toArray) #[] 7 none)).map (·.2) = vs.toArray := by
   show (vs.toArray.zip vs.toArray).map (·.2) = vs.toArray
   apply Array.ext (by simp)
   intro i h1 h2
   simp
  refine wpAny_bind (wpAny_pure ?_)
  dsimp only
  rw [StateT.run_pure]
  refine wpAny_bind (wpAny_pure ?_)
  dsimp only
  refine wpAny_bind (seqEpoch_at g6 rfl (wpAny_bind (listUpdate_at g6 rfl ?_ (Nat.zero_le _) ?_)))
  ·simp only [bne_self_eq_false, Bool.false_eq_true, if_false]
   have q := fin _ (e2 ▸ short (by simpa using h2)) (by rw [e2]; simp)
   exact wpAny_pure q
  ·show (((arrOf (SortSt.mk' general' (vs.toArray.zip vs.toArray) #[] 7 none)).map (·.2))).size <= sizeLine + 1
   rw [e2]; omega
 ·rw [if_neg h2, if_neg h2]
  have h2' : 2 <= vs.length := by simpa using h2
  refine wpAny_bind (wpAny_mono (core h2' _ keep) (fun κ s7 ⟨hs, h7⟩ => ?_) fun _ _ z => z)
  subst hs
  refine wpAny_bind (wpAny_mono h7 (fun r s8 ⟨hs, hf, hout, hsz⟩ => ?_) fun _ _ z => z)
  subst hs
  obtain ⟨⟨⟩, st⟩ := r
  refine wpAny_bind (seqEpoch_at g6 rfl (wpAny_bind (listUpdate_at g6 rfl ?_ (Nat.zero_le _) ?_)))
  ·have hf' : failedOf st = none := hf
   rw [hf']
   simp only [bne_self_eq_false, Bool.false_eq_true, if_false]
   exact wpAny_pure (fin _ hout (by rw [Array.size_map]; exact hsz))
  ·show ((arrOf st).map (·.2)).size <= sizeLine + 1
   rw [Array.size_map]
   have : (arrOf st).size = vs.length := hsz
   omega
theorem zkA {l : Addr} {vs : List Value} {Q : Value -> Shared -> Prop} {Out : Array Value -> Prop} (hl : s.heap.IsList l vs.toArray) (hz : vs.length <= sizeLine)
  (core : 2 <= vs.length -> ∀ s6 : Shared, (∀ b o, s.heap.get? b = some o -> s6.heap.get? b = some o) -> Core prog w A.in1.in1 E vs Out s6) (short : vs.length < 2 -> Out vs.toArray)
  (fin : ∀ out : Array Value, Out out -> out.size = vs.length -> Q (.ref (s.heap.objs.size + 1)) { s with heap := sortedAll s.heap vs out }) :
  wpAny (model prog w) A (call (.builtin "sorted") [.ref l]) Q E s := by
 have hsz : ((s.heap.push (seqObj "list" #[] 0)).update s.heap.objs.size (Obj.mapSeq (· ++ vs.toArray))).objs.size = s.heap.objs.size + 1 := by
  rw [Heap.size_update, size_push']
 have hoL : (((s.heap.push (seqObj "list" #[] 0)).update s.heap.objs.size (Obj.mapSeq (· ++ vs.toArray))).push (seqObj "list" vs.toArray 0)).get? (s.heap.objs.size + 1) = some (seqObj "list" vs.toArray 0) := hsz ▸ Heap.get?_push_size _ rfl
 have keep : ∀ b o, s.heap.get? b = some o -> (((s.heap.push (seqObj "list" #[] 0)).update s.heap.objs.size (Obj.mapSeq (· ++ vs.toArray))).push (seqObj "list" vs.toArray 0)).get? b = some o := fun b o q =>
  Heap.get?_push_of_some _ (by rw [Heap.get?_update_ne _ _ _ _ (Nat.ne_of_lt (Heap.lt_size q))]; exact Heap.get?_push_of_some _ q)
 refine Calls.call_function_entry kind_sorted plain_sorted entry_sorted (args_sorted1 _) ?_
 unfold Builtin.«sorted»
 refine wpAny_bind (m := checkCount "sorted" 1 1 _) (wpAny_pure (wpAny_bind (collect_list hl (wpAny_bind (wpAny_newList ?_ hz)) hz)))
 show wpAny _ _ _ _ _ { s with heap := ((s.heap.push (seqObj "list" #[] 0)).update s.heap.objs.size (Obj.mapSeq (· ++ vs.toArray))).push (seqObj "list" vs.toArray 0) }
 rw [hsz]
 refine wpAny_bind (wpAny_holding (wpAny_call_entry slot_list_sort ⟨_, hoL, rfl⟩ entry_list_sort (zdT hoL hz (fun h2 s6 k => core h2 s6 fun b o q => k b o ?_ (keep b o q)) short fun out h1 h2 => ⟨_, rfl, ?_⟩) (args_list_sort _)))
 ·exact Nat.ne_of_lt (Nat.lt_succ_of_lt (Heap.lt_size q))
 ·exact wpAny_pure ⟨_, rfl, fin out h1 h2⟩
end
end L4
namespace L4
open PySem PySem.W PySem.Calls PyProof.Rows L2
theorem zlc : ∀ a b : List Int, HT.lexLt a b = true -> HT.lexLt b a = false
 | [], [], h => by cases h
 | [], _ :: _, _ => rfl
 | _ :: _, [], h => by cases h
 | x :: a, y :: b, h => by
  rw [HT.zdi] at h ⊢
  by_cases e : x = y
  ·subst e; rw [if_pos rfl] at h ⊢; exact zlc a b h
  ·rw [if_neg e] at h; rw [if_neg (Ne.symm e)]
   have := of_decide_eq_true h
   exact decide_eq_false (by omega)
theorem zha : ∀ a b : List Int, HT.lexLt a b = false -> HT.lexLt b a = false -> a = b
 | [], [], _, _ => rfl
 | [], _ :: _, h, _ => by cases h
 | _ :: _, [], _, h => by cases h
 | x :: a, y :: b, h, h' => by
  rw [HT.zdi] at h h'
  by_cases e : x = y
  ·subst e; rw [if_pos rfl] at h h'; rw [zha a b h h']
  ·rw [if_neg e] at h; rw [if_neg (Ne.symm e)] at h'
   have h1 := of_decide_eq_false h
   have h2 := of_decide_eq_false h'
   omega
theorem zlb : ∀ a b c : List Int, HT.lexLt b a = false -> HT.lexLt c b = false -> HT.lexLt c a = false
 | [], [], [], _, _ => rfl
 | [], [], _ :: _, _, h => h
 | [], _ :: _, [], _, h => by cases h
 | [], _ :: _, _ :: _, _, _ => rfl
 | _ :: _, [], _, h, _ => by cases h
 | _ :: _, _ :: _, [], _, h => by cases h
 | x :: a, y :: b, z :: c, h, h' => by
  rw [HT.zdi] at h h' ⊢
  by_cases e1 : y = x
  ·subst e1
   rw [if_pos rfl] at h
   by_cases e2 : z = y
   ·subst e2; rw [if_pos rfl] at h' ⊢; exact zlb a b c h h'
   ·rw [if_neg e2] at h' ⊢; exact h'
  ·rw [if_neg e1] at h
   have h1 := of_decide_eq_false h
   by_cases e2 : z = y
   ·subst e2; rw [if_neg e1]; exact h
   ·rw [if_neg e2] at h'
    have h2 := of_decide_eq_false h'
    rw [if_neg (by omega)]
    exact decide_eq_false (by omega)
theorem ziF {α : Type} {r : α -> α -> Prop} (an : ∀ a b, r a b -> r b a -> a = b) : ∀ {l₁ l₂ : List α}, l₁.Perm l₂ -> l₁.Pairwise r -> l₂.Pairwise r -> l₁ = l₂
 | [], l₂, h, _, _ => (List.nil_perm.mp h).symm
 | a :: l₁, [], h, _, _ => absurd (List.perm_nil.mp h) (by simp)
 | a :: l₁, b :: l₂, h, h1, h2 => by
  have hab : a = b := by
   have ha : a ∈ b :: l₂ := h.mem_iff.mp List.mem_cons_self
   have hb : b ∈ a :: l₁ := h.mem_iff.mpr List.mem_cons_self
   rcases List.mem_cons.mp ha with e | ha
   ·exact e
   ·rcases List.mem_cons.mp hb with e | hb
    ·exact e.symm
    ·exact an _ _ (List.rel_of_pairwise_cons h1 hb) (List.rel_of_pairwise_cons h2 ha)
  subst hab
  rw [ziF an (List.Perm.cons_inv h) (List.pairwise_cons.mp h1).2 (List.pairwise_cons.mp h2).2]
noncomputable def zey (rows : List (List Int)) : List (List Int) := rows.mergeSort fun a b => !HT.lexLt b a
theorem zc9 (rows : List (List Int)) : (zey rows).Perm rows := List.mergeSort_perm _ _
theorem zfp (rows : List (List Int)) : (zey rows).Pairwise fun a b => HT.lexLt b a = false := by
 have := List.pairwise_mergeSort (le := fun a b : List Int => !HT.lexLt b a) (fun a b c h1 h2 => by simp at h1 h2 ⊢; exact zlb a b c h1 h2)
  (fun a b => by
   cases h : HT.lexLt b a with
   | false => simp
   | true => simp [zlc b a h]) rows
 exact this.imp fun h => by simpa using h
theorem zfo {rows out : List (List Int)} (hp : out.Perm rows) (hs : out.Pairwise fun a b => HT.lexLt b a = false) : out = zey rows :=
 ziF (fun a b h1 h2 => zha a b h2 h1) (hp.trans (zc9 rows).symm) hs (zfp rows)
noncomputable def zkK (rows : List (List Int)) (i j : Nat) : Bool := HT.lexLt (rows.getD i []) (rows.getD j [])
theorem zkJ (rows : List (List Int)) : Ord (zkK rows) := ⟨fun _ _ _ h1 h2 => zlb _ _ _ h1 h2, fun _ _ h => zlc _ _ h⟩
section
variable {prog : Program} {w : World} {A : Around} {E : Value -> Shared -> Prop} {s : Shared} {Q : Bool -> Shared -> Prop}
theorem znz {b : Bool} : ∀ (ns ms : List Int) (us ws : List Value) (i : Nat), IntsAre us ns -> IntsAre ws ms -> Q (HT.lexLt ns ms) s -> KatLex prog w A b (decide (ns.length < ms.length)) Q (us.zip ws) i s
 | [], [], _, _, _, .nil, .nil, h => kat_nil (by simpa [HT.lexLt] using h)
 | [], _ :: _, _, _, _, .nil, .cons _ _ _, h => kat_nil (by simpa [HT.lexLt] using h)
 | _ :: _, [], _, _, _, .cons _ _ _, .nil, h => kat_nil (by simpa [HT.lexLt] using h)
 | n :: ns, m :: ms, _, _, i, .cons _ t hu, .cons _ u hw, h => by
  rw [HT.zdi] at h
  refine kat_cons (SeqAt.EqAt.int_int n t m u prog w _ _ (kat_go (fun e => kat_yes ?_) fun e => kat_no ?_))
  ·have e' : n = m := by simpa using e
   rw [if_pos e'] at h
   rw [show decide ((n :: ns).length < (m :: ms).length) = decide (ns.length < ms.length) by simp]
   exact znz ns ms _ _ (i + 1) hu hw h
  ·have e' : ¬ n = m := by simpa using e
   rw [if_neg e'] at h
   cases b && i == 0 with
   | true => exact kat_lt_int h
   | false => exact kat_one _ _ (lt_int h)
def ze1 (h : Heap) : List Value -> List (List Int) -> Prop := Paired fun v r => r ≠ [] /\ ∃ b o its n, v = .ref b /\ h.get? b = some o /\ o.cls = .type "tuple" /\ o.data = .seq its n /\ IntsAre its.toList r
theorem ze1.znE {h : Heap} : ∀ {vs : List Value} {rows : List (List Int)}, ze1 h vs rows -> ∃ fs, KatTups h vs fs /\ fs.length = vs.length /\ ∀ v ∈ fs, ∃ n t, v = Value.int n t
 | _, _, .nil => ⟨[], KatTups.nil, rfl, fun _ hv => absurd hv (by simp)⟩
 | _, _, .cons ⟨hne, b, o, its, n, hv, ho, hc, hd, hi⟩ r => by
  obtain ⟨fs, h1, h2, h3⟩ := ze1.znE r
  subst hv
  obtain ⟨its⟩ := its
  cases hi with
  | nil => exact absurd rfl hne
  | cons k t _ => exact ⟨.int k t :: fs, KatTups.cons ho hc hd rfl h1, by simp [h2], fun v hv => (List.mem_cons.mp hv).elim (fun e => ⟨k, t, e⟩) (h3 v)⟩
theorem Paired.at' {α β : Type} {F : α -> β -> Prop} : ∀ {l₁ : List α} {l₂ : List β} {i : Nat}, Paired F l₁ l₂ -> i < l₁.length -> ∀ (d : α) (e : β), F (l₁.getD i d) (l₂.getD i e)
 | _, _, _, .nil, h, _, _ => absurd h (by simp)
 | _, _, 0, .cons r _, _, _, _ => r
 | _, _, i + 1, .cons _ t, h, d, e => by simpa using Paired.at' (i := i) t (by simpa using h) d e
theorem ze1.ask {vs : List Value} {rows : List (List Int)} {b : Bool} (r : ze1 s.heap vs rows) {i j : Nat} (hi : i < vs.length) (hj : j < vs.length) {C : Bool -> Shared -> Prop} (h : C (zkK rows i j) s) : kas_ask prog w A (tuples' b) vs i j C s := by
 obtain ⟨_, b1, o1, its1, n1, e1, g1, _, d1, q1⟩ := Paired.at' r hi Value.none []
 obtain ⟨_, b2, o2, its2, n2, e2, g2, _, d2, q2⟩ := Paired.at' r hj Value.none []
 unfold kas_ask
 rw [e1, e2]
 refine kat_lt g1 d1 g2 d2 ?_
 have l1 := q1.length
 have l2 := q2.length
 rw [Array.length_toList] at l1 l2
 rw [l1, l2]
 exact znz _ _ _ _ 0 q1 q2 h
theorem zhu {α : Type} {n : Nat} {lt : Nat -> Nat -> Bool} {cmp : Nat -> Nat -> (Bool -> Shared -> Prop) -> Shared -> Prop} {Q : α -> Shared -> Prop} (hc : ∀ i j C, i < n -> j < n -> C (lt i j) s -> cmp i j C s) : ∀ {t : KasT α}, Tot n lt t (fun a => Q a s) -> t.kasWp cmp Q s
 | .ret _, h => h
 | .ask i j _, h => hc i j _ h.1 h.2.1 (zhu hc h.2.2)
def zqS (vs : List Value) (rows : List (List Int)) (out : Array Value) : Prop :=
 ∃ idx : List Nat, idx.Perm (List.range vs.length) /\ out.toList = idx.map (fun i => vs.getD i Value.none) /\ (idx.map fun i => rows.getD i []).Pairwise fun a b => HT.lexLt b a = false
theorem zhC {rows : List (List Int)} {p : Array Nat} {n : Nat} (hn : p.size = n) (h : Srt (zkK rows) p n) : (p.toList.map fun i => rows.getD i []).Pairwise fun a b => HT.lexLt b a = false := by
 rw [List.pairwise_map, List.pairwise_iff_getElem]
 intro i j hi hj hij
 have := h i j (Nat.le_of_lt hij) (by rw [<- hn]; simpa using hj)
 simp only [Array.length_toList] at hi hj
 unfold Le zkK at this
 simpa [Array.getD_eq_getD_getElem?, hi, hj] using this
theorem zgc {vs : List Value} {rows : List (List Int)} (r : ze1 s.heap vs rows) (h2 : 2 <= vs.length) (h64 : vs.length < 64) : Core prog w A E vs (zqS vs rows) s := by
 obtain ⟨fs, t, hl, hf⟩ := r.znE
 unfold Core
 refine kat_kind (T := .type "int") t (by omega) (fun v hv => ?_) rfl ⟨rfl, ?_⟩
 ·obtain ⟨n, t, rfl⟩ := hf v hv
  exact Looks.of_pure rfl
 ·refine kat_run (ks := vs) (Q := fun st s'' => s'' = s /\ failedOf st = none /\ zqS vs rows ((arrOf st).map (·.2)) /\ (arrOf st).size = vs.length) (G := fun p s'' => s'' = s /\ OkP vs.length p /\ Srt (zkK rows) p vs.length) rfl h2 h64 (fun p st s' hs ha hfl hg => ?_) ?_
  ·obtain ⟨h1, h3, h4⟩ := hg
   refine ⟨h1, hfl, ⟨p.toList, ?_, ?_, zhC hs h4⟩, by rw [ha, Array.size_map]; exact hs⟩
   ·have := Array.Perm.toList h3
    simpa using this
   ·rw [kat_snds rfl ha]
  ·exact zhu (fun i j C hi hj hC => r.ask hi hj hC) (Tot.mono (fun p hp => ⟨rfl, hp⟩) (zmc (zkJ rows) (by omega)))
end
section
variable {X : Cx}
theorem zig : zcf X (.builtin "sorted") (fun xs H Q => ∃ p ys, ∃ rows : List (List Int), xs = [.ref p] /\ SqL X.K H p ys /\ Paired (fun v r => r ≠ [] /\ ∃ b, v = V.ref b /\ SqT X.K H b (r.map V.int)) ys rows /\ rows.length < 64 /\
  ∀ (l : Addr) (idx : List Nat), H l = none -> idx.Perm (List.range ys.length) -> (idx.map fun i => rows.getD i []).Pairwise (fun a b => HT.lexLt b a = false) -> Q (.ref l) (upd H l (.lst (idx.map fun i => ys.getD i .non)))) := by
 intro pins s σ H xs us Q I r h
 obtain ⟨p, ys, rows, rfl, hq, hr, h64, q⟩ := h
 obtain ⟨u, rfl, ru⟩ := vals1 r
 cases ru
 obtain ⟨its, rv, pl, hz⟩ := I.list hq
 have hl := rv.length
 have hlr : ys.length = rows.length := Paired.length hr
 have rows_at : ∀ h6 : Heap, (∀ b o, s.heap.get? b = some o -> h6.get? b = some o) -> ze1 h6 its rows := fun h6 k => by
  clear q hz hl hlr h64 hq pl r
  induction hr generalizing its with
  | nil => cases rv; exact .nil
  | cons g t ih =>
   cases rv with
   | cons r1 r2 =>
    refine .cons ?_ (ih _ r2)
    obtain ⟨hne, b, rfl, hb⟩ := g
    cases r1
    obtain ⟨its2, rv2, ⟨o, e, hc, n, hd⟩, _⟩ := I.tuple hb
    exact ⟨hne, b, o, _, n, rfl, k _ _ e, hc, hd, by simpa using intsAre_of rv2⟩
 refine zkA (Out := zqS its rows) pl.isList (by rw [<- hl]; exact hz) (fun h2 s6 k => zgc (rows_at _ k) h2 (by omega)) (fun h1 => ?_) fun out ho hs => ?_
 ·refine ⟨List.range its.length, .refl _, ?_, ?_⟩
  ·refine List.ext_getElem (by simp) fun i h1 h2 => ?_
   simp at h1
   simp [h1]
  ·rw [List.pairwise_map, List.pairwise_iff_getElem]
   intro i j hi hj hij
   simp at hi hj
   omega
 ·obtain ⟨idx, g1, g2, g3⟩ := ho
  obtain ⟨e, ho⟩ := sortedAll_at s.heap its out
  have hfr : H (s.heap.objs.size + 1) = none := I.hok.fresh (Nat.le_succ _)
  have g1' : idx.Perm (List.range ys.length) := by rw [hl]; exact g1
  refine ⟨.ref (s.heap.objs.size + 1), _, I.laid (t' := s.toks) (o := .lst (idx.map fun i => ys.getD i .non)) (fun b o q => sortedAll_old q) (Nat.le_succ _) ?_, rfl, q _ idx hfr g1' g3⟩
  refine ⟨by rw [List.length_map, g1'.length_eq, List.length_range]; exact hz, out.toList, e, ?_, by simpa using ho⟩
  rw [g2]
  have hlt : ∀ i ∈ idx, i < ys.length := fun i hi => by simpa using g1'.mem_iff.mp hi
  clear g1 g1' g2 g3 q
  induction idx with
  | nil => exact .nil
  | cons i idx ih =>
   refine .cons ?_ (ih fun j hj => hlt j (List.mem_cons_of_mem _ hj))
   have hi := hlt i List.mem_cons_self
   obtain ⟨u, e1, e2⟩ := rv.get (i := i) (x := ys[i]) (by simp [hi])
   have e3 : its.getD i Value.none = u := by simp [e1]
   have e4 : ys.getD i .non = ys[i] := by simp [hi]
   show RelV (ys.getD i .non) (its.getD i Value.none)
   rw [e3, e4]; exact e2
end
end L4
namespace L2
open PySem PySem.Spec PyProof.Rows
noncomputable def isT (ty T : String) : Bool := ty == T || (ty == "bool" && T == "int")
noncomputable def zqX (ty T : String) : Bool := PySem.W.kitMeta T && decide ((fastBuiltinMro ty).map (fun l => l.contains (Value.type T)) = some (isT ty T))
theorem zl9 : (["NoneType", "bool", "int", "str", "tuple", "list", "dict"].all fun ty => ["int", "bool", "tuple", "list", "str"].all fun T => zqX ty T) = true := by decide +kernel
theorem zry {K : PySem.W.Frag} {ty T : String} (h : zqX ty T = true) : PySem.W.kitOne K (.type ty) (.type T) = some (isT ty T) := by
 unfold zqX at h
 rw [Bool.and_eq_true] at h
 unfold PySem.W.kitOne
 split
 ·rename_i e
  have e' : ty = T := by have := eq_of_beq e; injection this
  subst e'
  simp [isT]
 ·show (if PySem.W.kitMeta T = true then PySem.W.subIn K (.type ty) (.type T) else none) = _
  rw [if_pos h.1]
  exact of_decide_eq_true h.2
noncomputable def TyN (K : PySem.W.Frag) (H : Hp) : V -> String -> Prop
 | .non, t => t = "NoneType"
 | .bl _, t => t = "bool"
 | .int _, t => t = "int"
 | .str _, t => t = "str"
 | .ref a, t => (t = "tuple" /\ ∃ xs, SqT K H a xs) \/ (t = "list" /\ ∃ xs, SqL K H a xs) \/ (t = "dict" /\ ∃ kvs, H a = some (.dK kvs))
 | _, _ => False
theorem zlL {X : Cx} : zcf X (.builtin "isinstance") (fun xs H Q => ∃ x T ty, xs = [x, .ty T] /\ TyN X.K H x ty /\ zqX ty T = true /\ Q (.bl (isT ty T)) H) := by
 intro pins s σ H xs us Q I r h
 obtain ⟨x, T, ty, rfl, hx, hT, q⟩ := h
 obtain ⟨u, c, rfl, ru, rc⟩ := vals2 r
 cases (show c = Value.type T from rc)
 have e : PySem.W.kitOne X.K (.type ty) (.type T) = some (isT ty T) := zry hT
 have fin : ∀ tk, EP X pins σ Q (.bool (isT ty T)) { s with toks := tk } := fun tk => ⟨.bl _, H, I.tok tk, rfl, q⟩
 cases x with
 | non => cases (show u = Value.none from ru); cases (show ty = _ from hx); exact PySem.W.kia_one PySem.W.kitx_none I.kIn True.intro e (fun z => nomatch z) fin
 | bl y => cases (show u = Value.bool y from ru); cases (show ty = _ from hx); exact PySem.W.kia_one PySem.W.kitx_bool I.kIn True.intro e (fun z => nomatch z) fin
 | int i => obtain ⟨t, rfl⟩ := (show ∃ t, u = Value.int i t from ru); cases (show ty = _ from hx); exact PySem.W.kia_one PySem.W.kitx_int I.kIn True.intro e (fun z => nomatch z) fin
 | str y => obtain ⟨t, rfl⟩ := (show ∃ t, u = Value.str y t from ru); cases (show ty = _ from hx); exact PySem.W.kia_one PySem.W.kitx_str I.kIn True.intro e (fun z => nomatch z) fin
 | ref a =>
  cases (show u = Value.ref a from ru)
  rcases hx with ⟨rfl, ys, hq⟩ | ⟨rfl, ys, hq⟩ | ⟨rfl, kvs, hq⟩
  ·obtain ⟨its, _, ⟨o, h1, h2, _⟩, _⟩ := I.tuple hq
   exact PySem.W.kia_one PySem.W.kitx_tuple I.kIn ⟨o, h1, h2⟩ e (fun z => nomatch z) fin
  ·obtain ⟨its, _, ⟨o, n, h1, h2, _⟩, _⟩ := I.list hq
   exact PySem.W.kia_one PySem.W.kitx_list I.kIn ⟨o, h1, h2⟩ e (fun z => nomatch z) fin
  ·obtain ⟨_, _, vs, _, p⟩ := (show zdk X.prog X.w H s.heap a (.dK kvs) from I.hok a _ hq)
   obtain ⟨o, es, ep, h1, h2, _⟩ := p
   exact PySem.W.kia_one PySem.W.kitx_dict I.kIn ⟨o, h1, h2.1⟩ e (fun z => nomatch z) fin
 | byt _ => exact hx.elim
 | flt _ => exact hx.elim
 | ty _ => exact hx.elim
end L2
namespace L3
open PySem PySem.Spec L2
open PyProof.Rows hiding St
section
variable {X : Cx} {K : PySem.W.Frag} {a b c e : Expr} {es : List Expr} {ta tb tc te : TDE} {tA : TDA} {pos p q : Pos}
theorem za3 (hm : X.mg "len" = none) (ha : PDA X (e :: es) tA) (hg : Gl X "len" := by rfl) (he : starEach (e :: es) X.env = (false, eval e X.env) :: starEach es X.env := by rfl) (hpl : (backTo pos (starEach es X.env)).any (·.1) = false := by rfl) : PD X (.Call (.Name "len" p) (e :: es) [] pos) (dCB zkk tA) :=
 zcL (zeF (zij.or zii) hg hm PySem.boot_len ha.pa (by decide) (by decide) he hpl) zkk.mo zkk.fits ha.mo
theorem zfH (hm : X.mg "list" = none) (ha : PDA X (e :: es) tA) (hg : Gl X "list" := by rfl) (he : starEach (e :: es) X.env = (false, eval e X.env) :: starEach es X.env := by rfl) (hpl : (backTo pos (starEach es X.env)).any (·.1) = false := by rfl) : PD X (.Call (.Name "list" p) (e :: es) [] pos) (dCB zfC tA) :=
 zcL (zdP zih hg hm PyProof.Rows.boot_list ha.pa (by decide) (by decide) he hpl) zfC.mo zfC.fits ha.mo
theorem zdf (hm : X.mg "tuple" = none) (ha : PDA X (e :: es) tA) (hg : Gl X "tuple" := by rfl) (he : starEach (e :: es) X.env = (false, eval e X.env) :: starEach es X.env := by rfl) (hpl : (backTo pos (starEach es X.env)).any (·.1) = false := by rfl) : PD X (.Call (.Name "tuple" p) (e :: es) [] pos) (dCB zdG tA) :=
 zcL (zdP zhi hg hm PyProof.Rows.boot_tuple ha.pa (by decide) (by decide) he hpl) zdG.mo zdG.fits ha.mo
noncomputable def zht (r : List Int) : D := .tup (r.map D.int)
theorem zcJ {H : Hp} : ∀ {rows : List (List Int)} {ys : List V}, zak K H (rows.map zht) ys -> (∀ r ∈ rows, r ≠ []) -> Paired (fun v r => r ≠ [] /\ ∃ b, v = V.ref b /\ SqT K H b (r.map V.int)) ys rows
 | [], ys, h, _ => by simp only [List.map_nil, zak] at h; subst h; exact .nil
 | r :: rows, ys, h, hn => by
  rw [List.map_cons] at h
  simp only [zak, zht, zau] at h
  obtain ⟨x, ys', rfl, ⟨a, xs, rfl, g1, g2⟩, h3⟩ := h
  rw [g2.ints] at g1
  exact .cons ⟨hn r List.mem_cons_self, a, rfl, g1⟩ (zcJ h3 fun r' hr => hn r' (List.mem_cons_of_mem _ hr))
theorem zeW {α : Type} {rows : List α} {d : α} {idx : List Nat} (h : idx.Perm (List.range rows.length)) : (idx.map fun i => rows.getD i d).Perm rows := by
 refine (h.map _).trans ?_
 have : (List.range rows.length).map (fun i => rows.getD i d) = rows := by
  refine List.ext_getElem (by simp) fun i h1 h2 => ?_
  simp [h2]
 rw [this]
theorem zak.perm {H : Hp} {rows : List (List Int)} {ys : List V} (h : zak K H (rows.map zht) ys) : ∀ {idx : List Nat}, (∀ i ∈ idx, i < rows.length) -> zak K H ((idx.map fun i => rows.getD i []).map zht) (idx.map fun i => ys.getD i .non)
 | [], _ => .nil
 | i :: idx, hi => by
  have h1 := hi i List.mem_cons_self
  obtain ⟨x, e1, e2⟩ := h.get (i := i) (d := zht rows[i]) (by simp [h1])
  refine .cons ?_ (zak.perm h fun j hj => hi j (List.mem_cons_of_mem _ hj))
  have e3 : ys.getD i .non = x := by simp [e1]
  have e4 : rows.getD i [] = rows[i] := by simp [h1]
  show zau K H (zht (rows.getD i [])) (ys.getD i .non)
  rw [e3, e4]; exact e2
theorem zce {tg : Expr} (hm : X.mg "range" = none) (ha : PDA X [a] tA) (hg : Gl X "range" := by rfl) (hs : starEach [a] X.env = [(false, eval a X.env)] := by rfl) : PDI X tg (.Call (.Name "range" p) [a] [] pos) (zoz tA) := zjP (zkT hg hm ha.pa hs) ha.mo
theorem zek {tg : Expr} (hm : X.mg "range" = none) (ha : PDA X [a, b] tA) (hg : Gl X "range" := by rfl) (hs : starEach [a, b] X.env = [(false, eval a X.env), (false, eval b X.env)] := by rfl) (hs2 : starEach [b] X.env = [(false, eval b X.env)] := by rfl) : PDI X tg (.Call (.Name "range" p) [a, b] [] pos) (zoy tA) := zjO (zkS hg hm ha.pa hs hs2) ha.mo
noncomputable def tyD (d : D) (S : SS) : Option String := match d with
 | .non => some "NoneType"
 | .bl _ => some "bool"
 | .int _ => some "int"
 | .str _ => some "str"
 | .tup _ => some "tuple"
 | .rol _ => some "list"
 | .ref p => match S p with
  | some (.lst _) => some "list"
  | some (.dct _) => some "dict"
  | none => none
def zj5 (T : String) (te : TDE) : TDE := fun δ S Q => te δ S fun x S1 => match tyD x S1 with
 | some ty => Q (.bl (isT ty T)) S1
 | none => False
theorem tyD.ok {H : Hp} {d : D} {v : V} {S : SS} {ty : String} (r : zau K H d v) (p : zbV K H S) (h : tyD d S = some ty) : TyN K H v ty /\ ty ∈ ["NoneType", "bool", "int", "str", "tuple", "list", "dict"] := by
 cases d with
 | non => simp only [zau] at r; subst r; cases h; exact ⟨rfl, by simp⟩
 | bl _ => simp only [zau] at r; subst r; cases h; exact ⟨rfl, by simp⟩
 | int _ => simp only [zau] at r; subst r; cases h; exact ⟨rfl, by simp⟩
 | str _ => simp only [zau] at r; subst r; cases h; exact ⟨rfl, by simp⟩
 | tup ds =>
  simp only [zau] at r
  obtain ⟨a, xs, rfl, g1, _⟩ := r
  cases h
  exact ⟨.inl ⟨rfl, xs, g1⟩, by simp⟩
 | rol ds =>
  simp only [zau] at r
  obtain ⟨a, xs, rfl, g1, _⟩ := r
  cases h
  exact ⟨.inr (.inl ⟨rfl, xs, g1.sq⟩), by simp⟩
 | ref a =>
  simp only [zau] at r
  subst r
  unfold tyD at h
  dsimp only at h
  split at h
  ·rename_i e
   cases h
   obtain ⟨xs, g1, _⟩ := p _ _ e
   exact ⟨.inr (.inl ⟨rfl, xs, SqL.of g1⟩), by simp⟩
  ·rename_i e
   cases h
   obtain ⟨xs, g1, _⟩ := p _ _ e
   exact ⟨.inr (.inr ⟨rfl, xs, g1⟩), by simp⟩
  ·cases h
theorem zgW {T : String} {x : Str} (hT : T ∈ ["int", "bool", "tuple", "list", "str"]) (hm : X.mg "isinstance" = none) (hm2 : X.mg x = none) (hv : bootBuiltins x = some (.type T)) (hg2 : Gl X x) (hn : x ≠ "__name__") (hd : (x == ("__debug__" : Str)) = false) (he : PD X e te) (hg : Gl X "isinstance" := by rfl)
  (h1 : starEach (e :: [.Name x q]) X.env = (false, eval e X.env) :: starEach [.Name x q] X.env := by rfl) (h2 : (backTo pos (starEach [.Name x q] X.env)).any (·.1) = false := by rfl) (h3 : starEach [.Name x q] X.env = (false, eval (.Name x q) X.env) :: starEach [] X.env := by rfl) :
  PD X (.Call (.Name "isinstance" p) [e, .Name x q] [] pos) (zj5 T te) := by
 refine ⟨fun δ S Q Q' hq z => he.mo δ S _ _ (fun y S1 z => ?_) z, PE.imp (zeF zlL hg hm boot_isinstance (zfc he.pe (zfc (zn9 (v := .ty T) hg2 hm2 hv rfl hn hd) zhR h3) h1) (by decide) (by decide) h1 h2) fun σ H Q hu => ?_⟩
 ·split at z
  ·exact hq _ _ z
  ·exact z
 ·obtain ⟨δ, S, r1, r2, z⟩ := hu
  refine upE.go he.mo r1 r2 z fun y S1 v H1 z1 q1 e1 p1 => ?_
  split at z1
  ·rename_i ty ht
   obtain ⟨g1, g2⟩ := tyD.ok q1 p1 ht
   refine ⟨v, T, ty, rfl, g1, ?_, z1 _ H1 (by simp only [zau]) e1 p1⟩
   exact List.all_eq_true.mp (List.all_eq_true.mp zl9 ty g2) T hT
  ·exact z1.elim
theorem zc7 (T : Bt X.mg) (he : PD X e te) (hg : Gl X "isinstance" := by rfl) (hg2 : Gl X "bool" := by rfl) (h1 : starEach (e :: [.Name "bool" q]) X.env = (false, eval e X.env) :: starEach [.Name "bool" q] X.env := by rfl) (h2 : (backTo pos (starEach [.Name "bool" q] X.env)).any (·.1) = false := by rfl) (h3 : starEach [.Name "bool" q] X.env = (false, eval (.Name "bool" q) X.env) :: starEach [] X.env := by rfl) :
  PD X (.Call (.Name "isinstance" p) [e, .Name "bool" q] [] pos) (zj5 "bool" te) := zgW (by simp) T.isinstance T.bool PyProof.Rows.boot_bool hg2 (by decide) (by decide) he hg h1 h2 h3
theorem zeM (T : Bt X.mg) (he : PD X e te) (hg : Gl X "isinstance" := by rfl) (hg2 : Gl X "int" := by rfl) (h1 : starEach (e :: [.Name "int" q]) X.env = (false, eval e X.env) :: starEach [.Name "int" q] X.env := by rfl) (h2 : (backTo pos (starEach [.Name "int" q] X.env)).any (·.1) = false := by rfl) (h3 : starEach [.Name "int" q] X.env = (false, eval (.Name "int" q) X.env) :: starEach [] X.env := by rfl) :
  PD X (.Call (.Name "isinstance" p) [e, .Name "int" q] [] pos) (zj5 "int" te) := zgW (by simp) T.isinstance T.int PyProof.Rows.boot_int hg2 (by decide) (by decide) he hg h1 h2 h3
theorem za0 (T : Bt X.mg) (he : PD X e te) (hg : Gl X "isinstance" := by rfl) (hg2 : Gl X "tuple" := by rfl) (h1 : starEach (e :: [.Name "tuple" q]) X.env = (false, eval e X.env) :: starEach [.Name "tuple" q] X.env := by rfl) (h2 : (backTo pos (starEach [.Name "tuple" q] X.env)).any (·.1) = false := by rfl) (h3 : starEach [.Name "tuple" q] X.env = (false, eval (.Name "tuple" q) X.env) :: starEach [] X.env := by rfl) :
  PD X (.Call (.Name "isinstance" p) [e, .Name "tuple" q] [] pos) (zj5 "tuple" te) := zgW (by simp) T.isinstance T.tuple PyProof.Rows.boot_tuple hg2 (by decide) (by decide) he hg h1 h2 h3
theorem zcN {o : Expr} {to : TDE} {apos cpos : Pos} (ho : PD X o to) (he : PD X e te)
  (hbase : attributeBase o "append" X.env (eval o X.env) = eval o X.env := by rfl)
  (hfew : ((backTo cpos (starEach [e] X.env)).all (fun x => !x.1) && (backToKw cpos (keywordEach [] X.env)).all (fun x => x.1.isSome)
   && decide ([e].length + ([] : List Keyword).length + (if ([] : List Keyword).isEmpty then 0 else 1) < 30)) = true := by rfl)
  (hline : (apos.endLine == cpos.line) = true := by rfl) (hs : starEach [e] X.env = (false, eval e X.env) :: starEach [] X.env := by rfl) (hplain : (backTo cpos (starEach [] X.env)).any (·.1) = false := by rfl) :
  PD X (.Call (.Attribute o "append" apos) [e] [] cpos) (zdW to te) :=
 zk0 (o := o) (e := e) (zro PySem.F.plainAttrs_list PySem.F.slot_list_append PySem.F.type_list_append zh1 ho.pe (zfc he.pe zhR hs) hbase hfew hline hs hplain) ho.mo he.mo
structure FD (P : Program) (w : World) (K : PySem.W.Frag) (mg : Str -> Option Value) (base : Heap) (x : Str) (k : Nat) (ps : List Str) (sp : SpD) : Prop where
 ex : ∃ (f : Addr) (fd : FuncData), zkm P w K mg base CX0 k f fd ps (upP K sp) /\ mg x = some (.ref f) /\ PySem.W.keepIn K (.ref f) = true /\ Binds K fd ps []
 mo : MoP sp
theorem zap {x : Str} {k : Nat} {ps : List Str} {sp : SpD} (F : FD X.prog X.w X.K X.mg X.base x k ps sp) (hr : ze2 k X.A) (ha : PDA X (e :: es) tA) (hg : Gl X x := by rfl) (hdb : (x == ("__debug__" : Str)) = false := by decide)
  (he : starEach (e :: es) X.env = (false, eval e X.env) :: starEach es X.env := by rfl) (hpl : (backTo pos (starEach es X.env)).any (·.1) = false := by rfl) : PD X (.Call (.Name x p) (e :: es) [] pos) (zoN sp tA) := by
 obtain ⟨⟨f, fd, h1, h2, h3, h4⟩, hm⟩ := F
 exact zof (E := E0) (zn8 h1 hr hg h2 h3 h4 .nil zrr ha.pa hdb he hpl) hm ha.mo
end
end L3
namespace L3
open PySem PySem.Spec L2
open PyProof.Rows hiding St
section
variable {P : Program} {w : World} {K : PySem.W.Frag} {mg : Str -> Option Value} {base : Heap} {f : Addr} {fd : FuncData}
end
theorem zj2 {S : SS} {p : Addr} {ds : List D} {Q : DK} (e : S p = some (.lst ds)) (h : Q (.tup ds) S) : zdG [.ref p] S Q := by
 unfold zdG; dsimp only; rw [e]; exact h
theorem zlz {S : SS} {d : D} {ds : List D} {Q : DK} (e : za7 d S = some ds) (h : ∀ p, S p = none -> Q (.ref p) (ups S p (.lst ds))) : zfC [d] S Q := by
 unfold zfC; dsimp only; rw [e]; exact h
theorem zmO {S : SS} {d : D} {ds : List D} {Q : DK} (e : za7 d S = some ds) (h : Q (.int ds.length) S) : zkk [d] S Q := by
 unfold zkk; dsimp only; rw [e]; exact h
theorem znO {S : SS} {p : Addr} {ds : List D} {Q : Bool -> SS -> Prop} (e : S p = some (.lst ds)) (h : Q (!ds.isEmpty) S) : tru (.ref p) S Q := by
 unfold tru; dsimp only; rw [e]; exact h
theorem zoK {S : SS} {p : Addr} {ds : List D} {i : Int} {d : D} {Q : DK} (e : S p = some (.lst ds)) (e2 : L2.atI ds i = some d) (h : Q d S) : fIx (.ref p) (.int i) S Q := by
 unfold fIx; dsimp only; rw [e]; dsimp only; rw [e2]; exact h
theorem zoI {S : SS} {ds : List D} {i : Int} {d : D} {Q : DK} (e2 : L2.atI ds i = some d) (h : Q d S) : fIx (.tup ds) (.int i) S Q := by
 unfold fIx; dsimp only; rw [e2]; exact h
theorem zoJ {S : SS} {ds : List D} {i : Int} {d : D} {Q : DK} (e2 : L2.atI ds i = some d) (h : Q d S) : fIx (.rol ds) (.int i) S Q := by
 unfold fIx; dsimp only; rw [e2]; exact h
end L3
namespace L3
open PySem PySem.Spec L2
open PyProof.Rows hiding St
inductive T where
 | non | bl (b : Bool) | int (i : Int) | str (x : Str) | tup (ts : List T) | lst (ts : List T) | dic
mutual
noncomputable def eqT : T -> T -> Bool
 | .non, .non => true
 | .bl a, .bl b => a == b
 | .bl a, .int b => (if a then 1 else 0) == b
 | .int a, .bl b => a == (if b then 1 else 0)
 | .int a, .int b => a == b
 | .str a, .str b => a == b
 | .tup a, .tup b => ziv a b
 | .lst a, .lst b => ziv a b
 | .dic, .dic => true
 | _, _ => false
noncomputable def ziv : List T -> List T -> Bool
 | [], [] => true
 | a :: as, b :: bs => eqT a b && ziv as bs
 | _, _ => false
end
mutual
noncomputable def dep : T -> Nat
 | .tup ts => 1 + ze6 ts
 | .lst ts => 1 + ze6 ts
 | .dic => cLine
 | _ => 0
noncomputable def ze6 : List T -> Nat
 | [] => 0
 | t :: ts => max (dep t) (ze6 ts)
end
mutual
noncomputable def Sn (S : SS) : T -> D -> Prop
 | .non, d => d = .non
 | .bl b, d => d = .bl b
 | .int i, d => d = .int i
 | .str x, d => d = .str x
 | .tup ts, d => ∃ ds, d = .tup ds /\ Sns S ts ds
 | .lst ts, d => ∃ ds, (d = .rol ds \/ ∃ a, d = .ref a /\ S a = some (.lst ds)) /\ Sns S ts ds
 | .dic, d => ∃ a kvs, d = .ref a /\ S a = some (.dct kvs)
noncomputable def Sns (S : SS) : List T -> List D -> Prop
 | [], ds => ds = []
 | t :: ts, ds => ∃ c cs, ds = c :: cs /\ Sn S t c /\ Sns S ts cs
end
mutual
theorem zhh : ∀ t : T, eqT t t = true
 | .non => by simp [eqT]
 | .bl b => by simp [eqT]
 | .int i => by simp [eqT]
 | .str x => by simp [eqT]
 | .tup ts => by simp only [eqT]; exact zf9 ts
 | .lst ts => by simp only [eqT]; exact zf9 ts
 | .dic => by simp [eqT]
theorem zf9 : ∀ ts : List T, ziv ts ts = true
 | [] => by simp [ziv]
 | t :: ts => by simp only [ziv, zhh t, zf9 ts, Bool.and_self]
end
theorem zcj : ∀ ts us : List T, ziv ts us = ((List.range (min ts.length us.length)).all (fun j => eqT (ts.getD j .non) (us.getD j .non)) && ts.length == us.length)
 | [], [] => by simp [ziv]
 | [], _ :: _ => by simp [ziv]
 | _ :: _, [] => by simp [ziv]
 | t :: ts, u :: us => by
  simp only [ziv, zcj ts us, List.length_cons]
  rw [show min (ts.length + 1) (us.length + 1) = min ts.length us.length + 1 by omega, List.range_succ_eq_map, List.all_cons, List.all_map]
  have : (ts.length + 1 == us.length + 1) = (ts.length == us.length) := by rw [Bool.eq_iff_iff]; simp
  rw [this, Bool.and_assoc]
  rfl
theorem Sns.length {S : SS} : ∀ {ts : List T} {ds : List D}, Sns S ts ds -> ts.length = ds.length
 | [], ds, h => by simp only [Sns] at h; subst h; rfl
 | t :: ts, ds, h => by
  simp only [Sns] at h
  obtain ⟨c, cs, rfl, _, h2⟩ := h
  simp [Sns.length h2]
section
variable {X : Cx} {pins : List (Addr × Obj)} {σ : St} {H : Hp} {s : Shared} {S : SS}
theorem znA (I : Inv X pins σ H s) {a : Addr} {xs ys : List V} (h1 : SqT X.K H a xs) (h2 : SqL X.K H a ys) : False := by
 obtain ⟨_, _, ⟨o, e, c, _⟩, _⟩ := I.tuple h1
 obtain ⟨_, _, ⟨o', n, e', c', _⟩, _⟩ := I.list h2
 rw [e] at e'; cases e'
 rw [c] at c'
 injection c' with q
 exact absurd q (by decide)
theorem Sn.zeX (p : zbV X.K H S) {ts : List T} {d : D} {x : V} (h : Sn S (.lst ts) d) (r : zau X.K H d x) : ∃ a xs ds, x = .ref a /\ SqL X.K H a xs /\ zak X.K H ds xs /\ Sns S ts ds := by
 simp only [Sn] at h
 obtain ⟨ds, h | ⟨a, h, e⟩, h2⟩ := h
 ·subst h
  simp only [zau] at r
  obtain ⟨a, xs, rfl, g1, g2⟩ := r
  exact ⟨a, xs, ds, rfl, g1.sq, g2, h2⟩
 ·subst h
  simp only [zau] at r
  obtain ⟨xs, g1, g2⟩ := p _ _ e
  exact ⟨a, xs, ds, r, SqL.of g1, g2, h2⟩
theorem Sn.zew {ts : List T} {d : D} {x : V} (h : Sn S (.tup ts) d) (r : zau X.K H d x) : ∃ a xs ds, x = .ref a /\ SqT X.K H a xs /\ zak X.K H ds xs /\ Sns S ts ds := by
 simp only [Sn] at h
 obtain ⟨ds, rfl, h2⟩ := h
 simp only [zau] at r
 obtain ⟨a, xs, rfl, g1, g2⟩ := r
 exact ⟨a, xs, ds, rfl, g1, g2, h2⟩
theorem Sn.zoM (p : zbV X.K H S) {d : D} {x : V} (h : Sn S .dic d) (r : zau X.K H d x) : ∃ a vs, x = .ref a /\ H a = some (.dK vs) := by
 simp only [Sn] at h
 obtain ⟨a, kvs, rfl, e⟩ := h
 simp only [zau] at r
 obtain ⟨xs, g1, g2⟩ := p _ _ e
 exact ⟨a, xs, r, g1⟩
theorem zlo (I : Inv X pins σ H s) {a : Addr} {vs : List (Key × V)} (h : H a = some (.dK vs)) : ∃ o, s.heap.get? a = some o /\ o.cls = .type "dict" := by
 obtain ⟨_, _, _, _, o, _, _, e, c⟩ := (show zdk X.prog X.w H s.heap a (.dK vs) from I.hok a _ h)
 exact ⟨o, e, c.1.1⟩
theorem znB (I : Inv X pins σ H s) {a : Addr} {xs : List V} {vs : List (Key × V)} (h1 : SqT X.K H a xs) (h2 : H a = some (.dK vs)) : False := by
 obtain ⟨_, _, ⟨o, e, c, _⟩, _⟩ := I.tuple h1
 obtain ⟨o', e', c'⟩ := zlo I h2
 rw [e] at e'; cases e'
 rw [c] at c'
 injection c' with q
 exact absurd q (by decide)
theorem znC (I : Inv X pins σ H s) {a : Addr} {xs : List V} {vs : List (Key × V)} (h1 : SqL X.K H a xs) (h2 : H a = some (.dK vs)) : False := by
 obtain ⟨_, _, ⟨o, n, e, c, _⟩, _⟩ := I.list h1
 obtain ⟨o', e', c'⟩ := zlo I h2
 rw [e] at e'; cases e'
 rw [c] at c'
 injection c' with q
 exact absurd q (by decide)
theorem Sn.flat {t : T} {d : D} {x : V} (h : Sn S t d) (r : zau X.K H d x) : match t with
  | .non => x = .non
  | .bl b => x = .bl b
  | .int i => x = .int i
  | .str y => x = .str y
  | _ => True := by
 cases t <;> first
  | trivial
  | (simp only [Sn] at h; subst h; simpa only [zau] using r)
mutual
theorem zi3 (I : Inv X pins σ H s) (p : zbV X.K H S) : ∀ (t u : T) {d e : D} {x : V}, Sn S t d -> Sn S u e -> zau X.K H d x -> zau X.K H e x -> t = u
 | .tup ts, u, d, e, x, h1, h2, r1, r2 => by
  obtain ⟨a, xs, ds, rfl, g1, g2, g3⟩ := h1.zew r1
  cases u with
  | dic => obtain ⟨_, _, q, g⟩ := h2.zoM p r2; cases q; exact (znB I g1 g).elim
  | tup us =>
   obtain ⟨a', xs', ds', q, k1, k2, k3⟩ := h2.zew r2
   cases q
   have := I.zfL g1 k1
   subst this
   rw [ziy I p ts us g3 k3 g2 k2]
  | lst us =>
   obtain ⟨a', xs', ds', q, k1, k2, k3⟩ := h2.zeX p r2
   cases q
   exact (znA I g1 k1).elim
  | non => exact nomatch h2.flat r2
  | bl _ => exact nomatch h2.flat r2
  | int _ => exact nomatch h2.flat r2
  | str _ => exact nomatch h2.flat r2
 | .lst ts, u, d, e, x, h1, h2, r1, r2 => by
  obtain ⟨a, xs, ds, rfl, g1, g2, g3⟩ := h1.zeX p r1
  cases u with
  | dic => obtain ⟨_, _, q, g⟩ := h2.zoM p r2; cases q; exact (znC I g1 g).elim
  | lst us =>
   obtain ⟨a', xs', ds', q, k1, k2, k3⟩ := h2.zeX p r2
   cases q
   have := I.zg9 g1 k1
   subst this
   rw [ziy I p ts us g3 k3 g2 k2]
  | tup us =>
   obtain ⟨a', xs', ds', q, k1, k2, k3⟩ := h2.zew r2
   cases q
   exact (znA I k1 g1).elim
  | non => exact nomatch h2.flat r2
  | bl _ => exact nomatch h2.flat r2
  | int _ => exact nomatch h2.flat r2
  | str _ => exact nomatch h2.flat r2
 | .non, u, d, e, x, h1, h2, r1, r2 => by
  have q := h1.flat r1
  subst q
  cases u with
  | dic => obtain ⟨_, _, q, g⟩ := h2.zoM p r2; cases q
  | non => rfl
  | tup us => obtain ⟨_, _, _, q, _⟩ := h2.zew r2; cases q
  | lst us => obtain ⟨_, _, _, q, _⟩ := h2.zeX p r2; cases q
  | bl _ => exact nomatch h2.flat r2
  | int _ => exact nomatch h2.flat r2
  | str _ => exact nomatch h2.flat r2
 | .bl b, u, d, e, x, h1, h2, r1, r2 => by
  have q := h1.flat r1
  subst q
  cases u with
  | dic => obtain ⟨_, _, q, g⟩ := h2.zoM p r2; cases q
  | bl _ => have q := h2.flat r2; cases q; rfl
  | tup us => obtain ⟨_, _, _, q, _⟩ := h2.zew r2; cases q
  | lst us => obtain ⟨_, _, _, q, _⟩ := h2.zeX p r2; cases q
  | non => exact nomatch h2.flat r2
  | int _ => exact nomatch h2.flat r2
  | str _ => exact nomatch h2.flat r2
 | .int b, u, d, e, x, h1, h2, r1, r2 => by
  have q := h1.flat r1
  subst q
  cases u with
  | dic => obtain ⟨_, _, q, g⟩ := h2.zoM p r2; cases q
  | int _ => have q := h2.flat r2; cases q; rfl
  | tup us => obtain ⟨_, _, _, q, _⟩ := h2.zew r2; cases q
  | lst us => obtain ⟨_, _, _, q, _⟩ := h2.zeX p r2; cases q
  | non => exact nomatch h2.flat r2
  | bl _ => exact nomatch h2.flat r2
  | str _ => exact nomatch h2.flat r2
 | .str b, u, d, e, x, h1, h2, r1, r2 => by
  have q := h1.flat r1
  subst q
  cases u with
  | dic => obtain ⟨_, _, q, g⟩ := h2.zoM p r2; cases q
  | str _ => have q := h2.flat r2; cases q; rfl
  | tup us => obtain ⟨_, _, _, q, _⟩ := h2.zew r2; cases q
  | lst us => obtain ⟨_, _, _, q, _⟩ := h2.zeX p r2; cases q
  | non => exact nomatch h2.flat r2
  | bl _ => exact nomatch h2.flat r2
  | int _ => exact nomatch h2.flat r2
 | .dic, u, d, e, x, h1, h2, r1, r2 => by
  obtain ⟨a, vs, rfl, g⟩ := h1.zoM p r1
  cases u with
  | dic => rfl
  | tup us => obtain ⟨_, _, _, q, g1, _⟩ := h2.zew r2; cases q; exact (znB I g1 g).elim
  | lst us => obtain ⟨_, _, _, q, g1, _⟩ := h2.zeX p r2; cases q; exact (znC I g1 g).elim
  | non => exact nomatch h2.flat r2
  | bl _ => exact nomatch h2.flat r2
  | int _ => exact nomatch h2.flat r2
  | str _ => exact nomatch h2.flat r2
theorem ziy (I : Inv X pins σ H s) (p : zbV X.K H S) : ∀ (ts us : List T) {ds es : List D} {xs : List V}, Sns S ts ds -> Sns S us es -> zak X.K H ds xs -> zak X.K H es xs -> ts = us
 | [], us, ds, es, xs, h1, h2, r1, r2 => by
  have e := h1.length.trans (r1.length.trans (r2.length.symm.trans h2.length.symm))
  cases us with
  | nil => rfl
  | cons _ _ => simp at e
 | t :: ts, [], ds, es, xs, h1, h2, r1, r2 => by
  have e := h1.length.trans (r1.length.trans (r2.length.symm.trans h2.length.symm))
  simp at e
 | t :: ts, u :: us, ds, es, xs, h1, h2, r1, r2 => by
  simp only [Sns] at h1 h2
  obtain ⟨c, cs, rfl, a1, a2⟩ := h1
  obtain ⟨c', cs', rfl, b1, b2⟩ := h2
  simp only [zak] at r1 r2
  obtain ⟨y, ys, rfl, g1, g2⟩ := r1
  obtain ⟨y', ys', q, k1, k2⟩ := r2
  cases q
  rw [zi3 I p t u a1 b1 g1 k1, ziy I p ts us a2 b2 g2 k2]
end
theorem Sns.get {ts : List T} {ds : List D} (h : Sns S ts ds) : ∀ {j : Nat}, j < ts.length -> ∃ c, ds[j]? = some c /\ Sn S (ts.getD j .non) c := by
 induction ts generalizing ds with
 | nil => intro j hj; simp at hj
 | cons t ts ih =>
  intro j hj
  simp only [Sns] at h
  obtain ⟨c, cs, rfl, h1, h2⟩ := h
  cases j with
  | zero => exact ⟨c, rfl, h1⟩
  | succ j =>
   obtain ⟨c', e, h3⟩ := ih h2 (j := j) (by simpa using hj)
   exact ⟨c', by simpa using e, by simpa using h3⟩
theorem zjm : ∀ {ts : List T} {j : Nat}, j < ts.length -> dep (ts.getD j .non) <= ze6 ts
 | [], j, h => by simp at h
 | t :: ts, 0, _ => by simp only [ze6, List.getD_cons_zero]; omega
 | t :: ts, j + 1, h => by
  have := zjm (ts := ts) (j := j) (by simpa using h)
  simp only [ze6, List.getD_cons_succ]; omega
mutual
theorem znH (I : Inv X pins σ H s) (p : zbV X.K H S) : ∀ (t u : T) {A : Around} {d e : D} {x y : V} {a b : Value}, A.units + dep t < cLine -> A.units + dep u < cLine -> Sn S t d -> Sn S u e -> zau X.K H d x -> zau X.K H e y -> RelV x a -> RelV y b -> SeqAt.EqAt A s a b (eqT t u)
 | .non, u, A, d, e, x, y, a, b, hu, hu', h1, h2, r1, r2, v1, v2 => by
  have q := h1.flat r1; subst q; cases v1
  cases u with
  | dic => simp only [dep] at hu'; omega
  | non => have q := h2.flat r2; subst q; cases v2; simp only [eqT]; exact SeqAt.EqAt.same _
  | bl b => have q := h2.flat r2; subst q; cases v2; simp only [eqT]; exact SeqAt.EqAt.none_bool _
  | int i => have q := h2.flat r2; subst q; obtain ⟨t, rfl⟩ := v2; simp only [eqT]; exact SeqAt.EqAt.none_int _ _
  | str i => have q := h2.flat r2; subst q; obtain ⟨t, rfl⟩ := v2; simp only [eqT]; exact SeqAt.EqAt.none_str _ _
  | tup us => obtain ⟨a', xs', ds', rfl, k1, k2, k3⟩ := h2.zew r2; cases v2; obtain ⟨_, _, pt, _⟩ := I.tuple k1; simp only [eqT]; exact SeqAt.EqAt.none_tuple pt (by omega)
  | lst us => obtain ⟨a', xs', ds', rfl, k1, k2, k3⟩ := h2.zeX p r2; cases v2; obtain ⟨_, _, pl, _⟩ := I.list k1; simp only [eqT]; exact SeqAt.EqAt.none_list pl.isList (by omega)
 | .bl c, u, A, d, e, x, y, a, b, hu, hu', h1, h2, r1, r2, v1, v2 => by
  have q := h1.flat r1; subst q; cases v1
  cases u with
  | dic => simp only [dep] at hu'; omega
  | non => have q := h2.flat r2; subst q; cases v2; simp only [eqT]; exact SeqAt.EqAt.bool_none _
  | bl b => have q := h2.flat r2; subst q; cases v2; simp only [eqT]; exact SeqAt.EqAt.bool_bool _ _
  | int i => have q := h2.flat r2; subst q; obtain ⟨t, rfl⟩ := v2; simp only [eqT]; exact SeqAt.EqAt.bool_int _ _ _
  | str i => have q := h2.flat r2; subst q; obtain ⟨t, rfl⟩ := v2; simp only [eqT]; exact SeqAt.EqAt.bool_str _ _ _
  | tup us => obtain ⟨a', xs', ds', rfl, k1, k2, k3⟩ := h2.zew r2; cases v2; obtain ⟨_, _, pt, _⟩ := I.tuple k1; simp only [eqT]; exact SeqAt.EqAt.bool_tuple _ pt (by omega)
  | lst us => obtain ⟨a', xs', ds', rfl, k1, k2, k3⟩ := h2.zeX p r2; cases v2; obtain ⟨_, _, pl, _⟩ := I.list k1; simp only [eqT]; exact SeqAt.EqAt.bool_list _ pl.isList (by omega)
 | .int c, u, A, d, e, x, y, a, b, hu, hu', h1, h2, r1, r2, v1, v2 => by
  have q := h1.flat r1; subst q; obtain ⟨tk, rfl⟩ := v1
  cases u with
  | dic => simp only [dep] at hu'; omega
  | non => have q := h2.flat r2; subst q; cases v2; simp only [eqT]; exact SeqAt.EqAt.int_none _ _
  | bl b => have q := h2.flat r2; subst q; cases v2; simp only [eqT]; exact SeqAt.EqAt.int_bool _ _ _
  | int i => have q := h2.flat r2; subst q; obtain ⟨t, rfl⟩ := v2; simp only [eqT]; exact SeqAt.EqAt.int_int _ _ _ _
  | str i => have q := h2.flat r2; subst q; obtain ⟨t, rfl⟩ := v2; simp only [eqT]; exact SeqAt.EqAt.int_str _ _ _ _
  | tup us => obtain ⟨a', xs', ds', rfl, k1, k2, k3⟩ := h2.zew r2; cases v2; obtain ⟨_, _, pt, _⟩ := I.tuple k1; simp only [eqT]; exact SeqAt.EqAt.int_tuple _ _ pt (by omega)
  | lst us => obtain ⟨a', xs', ds', rfl, k1, k2, k3⟩ := h2.zeX p r2; cases v2; obtain ⟨_, _, pl, _⟩ := I.list k1; simp only [eqT]; exact SeqAt.EqAt.int_list _ _ pl.isList (by omega)
 | .str c, u, A, d, e, x, y, a, b, hu, hu', h1, h2, r1, r2, v1, v2 => by
  have q := h1.flat r1; subst q; obtain ⟨tk, rfl⟩ := v1
  cases u with
  | dic => simp only [dep] at hu'; omega
  | non => have q := h2.flat r2; subst q; cases v2; simp only [eqT]; exact SeqAt.EqAt.str_none _ _
  | bl b => have q := h2.flat r2; subst q; cases v2; simp only [eqT]; exact SeqAt.EqAt.str_bool _ _ _
  | int i => have q := h2.flat r2; subst q; obtain ⟨t, rfl⟩ := v2; simp only [eqT]; exact SeqAt.EqAt.str_int _ _ _ _
  | str i => have q := h2.flat r2; subst q; obtain ⟨t, rfl⟩ := v2; simp only [eqT]; exact SeqAt.EqAt.str_str _ _ _ _
  | tup us => obtain ⟨a', xs', ds', rfl, k1, k2, k3⟩ := h2.zew r2; cases v2; obtain ⟨_, _, pt, _⟩ := I.tuple k1; simp only [eqT]; exact SeqAt.EqAt.str_tuple _ _ pt (by omega)
  | lst us => obtain ⟨a', xs', ds', rfl, k1, k2, k3⟩ := h2.zeX p r2; cases v2; obtain ⟨_, _, pl, _⟩ := I.list k1; simp only [eqT]; exact SeqAt.EqAt.str_list _ _ pl.isList (by omega)
 | .tup ts, u, A, d, e, x, y, a, b, hu, hu', h1, h2, r1, r2, v1, v2 => by
  have hd1 := h1
  have hr1 := r1
  obtain ⟨l, xs, ds, rfl, g1, g2, g3⟩ := h1.zew r1
  cases v1
  obtain ⟨its, w1, pt, _⟩ := I.tuple g1
  simp only [dep] at hu
  cases u with
  | dic => simp only [dep] at hu'; omega
  | non => have q := h2.flat r2; subst q; cases v2; simp only [eqT]; exact SeqAt.EqAt.tuple_none pt (by omega)
  | bl b => have q := h2.flat r2; subst q; cases v2; simp only [eqT]; exact SeqAt.EqAt.tuple_bool _ pt (by omega)
  | int i => have q := h2.flat r2; subst q; obtain ⟨t, rfl⟩ := v2; simp only [eqT]; exact SeqAt.EqAt.tuple_int _ _ pt (by omega)
  | str i => have q := h2.flat r2; subst q; obtain ⟨t, rfl⟩ := v2; simp only [eqT]; exact SeqAt.EqAt.tuple_str _ _ pt (by omega)
  | tup us =>
   by_cases hlb : (Value.ref l) = b
   ·subst hlb
    have hy : y = .ref l := RelV.inj v2 rfl
    subst hy
    have := zi3 I p (.tup ts) (.tup us) hd1 h2 hr1 r2
    rw [<- this, zhh]
    exact SeqAt.EqAt.same _
   ·obtain ⟨l', xs', ds', rfl, k1, k2, k3⟩ := h2.zew r2
    cases v2
    obtain ⟨its', w2, pt', _⟩ := I.tuple k1
    simp only [dep] at hu'
    have e1 : its.toArray.size = ts.length := by rw [List.size_toArray, <- w1.length, <- g2.length, <- g3.length]
    have e2 : its'.toArray.size = us.length := by rw [List.size_toArray, <- w2.length, <- k2.length, <- k3.length]
    have q := SeqAt.RcAt.tuples (A := A) (e := fun j => eqT (ts.getD j .non) (us.getD j .non)) pt pt' (by omega) fun j h1 h2 => by
     have := zen I p ts us (A := A.in1) (by show A.units + 1 + ze6 ts < cLine; omega) (by show A.units + 1 + ze6 us < cLine; omega) g3 k3 g2 k2 w1 w2 j (by simpa using h1) (by simpa using h2)
     simpa using this
    rw [e1, e2] at q
    have q' := SeqAt.EqAt.of_refs (fun z => hlb (by rw [z])) q
    simp only [eqT, zcj]
    exact q'
  | lst us => obtain ⟨l', xs', ds', rfl, k1, k2, k3⟩ := h2.zeX p r2; cases v2; obtain ⟨_, _, pl, _⟩ := I.list k1; simp only [eqT]; exact SeqAt.EqAt.tuple_list pt pl.isList (by omega)
 | .lst ts, u, A, d, e, x, y, a, b, hu, hu', h1, h2, r1, r2, v1, v2 => by
  have hd1 := h1
  have hr1 := r1
  obtain ⟨l, xs, ds, rfl, g1, g2, g3⟩ := h1.zeX p r1
  cases v1
  obtain ⟨its, w1, pl, _⟩ := I.list g1
  simp only [dep] at hu
  cases u with
  | dic => simp only [dep] at hu'; omega
  | non => have q := h2.flat r2; subst q; cases v2; simp only [eqT]; exact SeqAt.EqAt.list_none pl.isList (by omega)
  | bl b => have q := h2.flat r2; subst q; cases v2; simp only [eqT]; exact SeqAt.EqAt.list_bool _ pl.isList (by omega)
  | int i => have q := h2.flat r2; subst q; obtain ⟨t, rfl⟩ := v2; simp only [eqT]; exact SeqAt.EqAt.list_int _ _ pl.isList (by omega)
  | str i => have q := h2.flat r2; subst q; obtain ⟨t, rfl⟩ := v2; simp only [eqT]; exact SeqAt.EqAt.list_str _ _ pl.isList (by omega)
  | tup us => obtain ⟨l', xs', ds', rfl, k1, k2, k3⟩ := h2.zew r2; cases v2; obtain ⟨_, _, pt, _⟩ := I.tuple k1; simp only [eqT]; exact SeqAt.EqAt.list_tuple pl.isList pt (by omega)
  | lst us =>
   by_cases hlb : (Value.ref l) = b
   ·subst hlb
    have hy : y = .ref l := RelV.inj v2 rfl
    subst hy
    have := zi3 I p (.lst ts) (.lst us) hd1 h2 hr1 r2
    rw [<- this, zhh]
    exact SeqAt.EqAt.same _
   ·obtain ⟨l', xs', ds', rfl, k1, k2, k3⟩ := h2.zeX p r2
    cases v2
    obtain ⟨its', w2, pl', _⟩ := I.list k1
    simp only [dep] at hu'
    have e1 : its.toArray.size = ts.length := by rw [List.size_toArray, <- w1.length, <- g2.length, <- g3.length]
    have e2 : its'.toArray.size = us.length := by rw [List.size_toArray, <- w2.length, <- k2.length, <- k3.length]
    have hne : l ≠ l' := fun z => hlb (by rw [z])
    by_cases hsz : ts.length = us.length
    ·have q := SeqAt.RcAt.lists (A := A) (e := fun j => eqT (ts.getD j .non) (us.getD j .non)) pl.isList pl'.isList (by rw [e1, e2]; exact hsz) (by omega) fun j h1 h2 => by
      have := zen I p ts us (A := A.in1) (by show A.units + 1 + ze6 ts < cLine; omega) (by show A.units + 1 + ze6 us < cLine; omega) g3 k3 g2 k2 w1 w2 j (by simpa using h1) (by simpa using h2)
      simpa using this
     rw [e1] at q
     have q' := SeqAt.EqAt.of_refs hne q
     simp only [eqT, zcj]
     rw [<- hsz, Nat.min_self]
     simpa using q'
    ·have q := SeqAt.RcAt.lists_lengths (A := A) pl.isList pl'.isList (by rw [e1, e2]; simpa using hsz) (by omega)
     have q' := SeqAt.EqAt.of_refs hne q
     simp only [eqT, zcj]
     have : (ts.length == us.length) = false := by simpa using hsz
     rw [this, Bool.and_false]
     exact q'
 | .dic, u, A, d, e, x, y, a, b, hu, hu', h1, h2, r1, r2, v1, v2 => by simp only [dep] at hu; omega
theorem zen (I : Inv X pins σ H s) (p : zbV X.K H S) : ∀ (ts us : List T) {A : Around} {ds es : List D} {xs ys : List V} {its its' : List Value}, A.units + ze6 ts < cLine -> A.units + ze6 us < cLine -> Sns S ts ds -> Sns S us es -> zak X.K H ds xs -> zak X.K H es ys -> Vals xs its -> Vals ys its' ->
  ∀ (j : Nat) (h1 : j < its.length) (h2 : j < its'.length), SeqAt.EqAt A s its[j] its'[j] (eqT (ts.getD j .non) (us.getD j .non))
 | [], us, A, ds, es, xs, ys, its, its', hu, hu', s1, s2, r1, r2, v1, v2, j, h1, h2 => by
  rw [<- v1.length, <- r1.length, <- s1.length] at h1
  simp at h1
 | t :: ts, [], A, ds, es, xs, ys, its, its', hu, hu', s1, s2, r1, r2, v1, v2, j, h1, h2 => by
  rw [<- v2.length, <- r2.length, <- s2.length] at h2
  simp at h2
 | t :: ts, u :: us, A, ds, es, xs, ys, its, its', hu, hu', s1, s2, r1, r2, v1, v2, j, h1, h2 => by
  simp only [Sns] at s1 s2
  obtain ⟨c, cs, rfl, a1, a2⟩ := s1
  obtain ⟨c', cs', rfl, b1, b2⟩ := s2
  simp only [zak] at r1 r2
  obtain ⟨y, ys, rfl, g1, g2⟩ := r1
  obtain ⟨y', ys', rfl, k1, k2⟩ := r2
  cases v1 with
  | cons m1 m2 =>
   cases v2 with
   | cons n1 n2 =>
    simp only [ze6] at hu hu'
    cases j with
    | zero => simpa using znH I p t u (A := A) (by omega) (by omega) a1 b1 g1 k1 m1 n1
    | succ j => simpa using zen I p ts us (A := A) (by omega) (by omega) a2 b2 g2 k2 m2 n2 j (by simpa using h1) (by simpa using h2)
end
end
end L3
namespace L3
open PySem PySem.Spec L2
open PyProof.Rows hiding St
section
variable {X : Cx} {pins : List (Addr × Obj)} {σ : St} {H : Hp} {s : Shared} {S : SS}
theorem zpt (I : Inv X pins σ H s) (p : zbV X.K H S) : ∀ (t u : T) {A : Around} {d e : D} {x y : V} {a b : Value}, A.units + dep t < cLine -> A.units + dep u < cLine -> Sn S t d -> Sn S u e -> zau X.K H d x -> zau X.K H e y -> RelV x a -> RelV y b -> SeqAt.RcAt A s a b (eqT t u)
 | .non, u, A, d, e, x, y, a, b, hu, hu', h1, h2, r1, r2, v1, v2 => by
  have q := h1.flat r1; subst q; cases v1
  cases u with
  | dic => simp only [dep] at hu'; omega
  | non => have q := h2.flat r2; subst q; cases v2; simp only [eqT]; exact SeqAt.RcAt.none_none
  | bl c2 => have q := h2.flat r2; subst q; cases v2; simp only [eqT]; exact SeqAt.RcAt.none_bool _
  | int c2 => have q := h2.flat r2; subst q; obtain ⟨tk2, rfl⟩ := v2; simp only [eqT]; exact SeqAt.RcAt.none_int _ _
  | str c2 => have q := h2.flat r2; subst q; obtain ⟨tk2, rfl⟩ := v2; simp only [eqT]; exact SeqAt.RcAt.none_str _ _
  | tup c2 => obtain ⟨l', xs', ds', rfl, k1, k2, k3⟩ := h2.zew r2; cases v2; obtain ⟨its', w2, pt', _⟩ := I.tuple k1; simp only [dep] at hu'; simp only [eqT]; exact SeqAt.RcAt.none_tuple pt' (by omega)
  | lst c2 => obtain ⟨l', xs', ds', rfl, k1, k2, k3⟩ := h2.zeX p r2; cases v2; obtain ⟨its', w2, pl', _⟩ := I.list k1; simp only [dep] at hu'; simp only [eqT]; exact SeqAt.RcAt.none_list pl'.isList (by omega)
 | .bl c, u, A, d, e, x, y, a, b, hu, hu', h1, h2, r1, r2, v1, v2 => by
  have q := h1.flat r1; subst q; cases v1
  cases u with
  | dic => simp only [dep] at hu'; omega
  | non => have q := h2.flat r2; subst q; cases v2; simp only [eqT]; exact SeqAt.RcAt.bool_none _
  | bl c2 => have q := h2.flat r2; subst q; cases v2; simp only [eqT]; exact SeqAt.RcAt.bool_bool _ _
  | int c2 => have q := h2.flat r2; subst q; obtain ⟨tk2, rfl⟩ := v2; simp only [eqT]; exact SeqAt.RcAt.bool_int _ _ _
  | str c2 => have q := h2.flat r2; subst q; obtain ⟨tk2, rfl⟩ := v2; simp only [eqT]; exact SeqAt.RcAt.bool_str _ _ _
  | tup c2 => obtain ⟨l', xs', ds', rfl, k1, k2, k3⟩ := h2.zew r2; cases v2; obtain ⟨its', w2, pt', _⟩ := I.tuple k1; simp only [dep] at hu'; simp only [eqT]; exact SeqAt.RcAt.bool_tuple _ pt' (by omega)
  | lst c2 => obtain ⟨l', xs', ds', rfl, k1, k2, k3⟩ := h2.zeX p r2; cases v2; obtain ⟨its', w2, pl', _⟩ := I.list k1; simp only [dep] at hu'; simp only [eqT]; exact SeqAt.RcAt.bool_list _ pl'.isList (by omega)
 | .int c, u, A, d, e, x, y, a, b, hu, hu', h1, h2, r1, r2, v1, v2 => by
  have q := h1.flat r1; subst q; obtain ⟨tk, rfl⟩ := v1
  cases u with
  | dic => simp only [dep] at hu'; omega
  | non => have q := h2.flat r2; subst q; cases v2; simp only [eqT]; exact SeqAt.RcAt.int_none _ _
  | bl c2 => have q := h2.flat r2; subst q; cases v2; simp only [eqT]; exact SeqAt.RcAt.int_bool _ _ _
  | int c2 => have q := h2.flat r2; subst q; obtain ⟨tk2, rfl⟩ := v2; simp only [eqT]; exact SeqAt.RcAt.int_int _ _ _ _
  | str c2 => have q := h2.flat r2; subst q; obtain ⟨tk2, rfl⟩ := v2; simp only [eqT]; exact SeqAt.RcAt.int_str _ _ _ _
  | tup c2 => obtain ⟨l', xs', ds', rfl, k1, k2, k3⟩ := h2.zew r2; cases v2; obtain ⟨its', w2, pt', _⟩ := I.tuple k1; simp only [dep] at hu'; simp only [eqT]; exact SeqAt.RcAt.int_tuple _ _ pt' (by omega)
  | lst c2 => obtain ⟨l', xs', ds', rfl, k1, k2, k3⟩ := h2.zeX p r2; cases v2; obtain ⟨its', w2, pl', _⟩ := I.list k1; simp only [dep] at hu'; simp only [eqT]; exact SeqAt.RcAt.int_list _ _ pl'.isList (by omega)
 | .str c, u, A, d, e, x, y, a, b, hu, hu', h1, h2, r1, r2, v1, v2 => by
  have q := h1.flat r1; subst q; obtain ⟨tk, rfl⟩ := v1
  cases u with
  | dic => simp only [dep] at hu'; omega
  | non => have q := h2.flat r2; subst q; cases v2; simp only [eqT]; exact SeqAt.RcAt.str_none _ _
  | bl c2 => have q := h2.flat r2; subst q; cases v2; simp only [eqT]; exact SeqAt.RcAt.str_bool _ _ _
  | int c2 => have q := h2.flat r2; subst q; obtain ⟨tk2, rfl⟩ := v2; simp only [eqT]; exact SeqAt.RcAt.str_int _ _ _ _
  | str c2 => have q := h2.flat r2; subst q; obtain ⟨tk2, rfl⟩ := v2; simp only [eqT]; exact SeqAt.RcAt.str_str _ _ _ _
  | tup c2 => obtain ⟨l', xs', ds', rfl, k1, k2, k3⟩ := h2.zew r2; cases v2; obtain ⟨its', w2, pt', _⟩ := I.tuple k1; simp only [dep] at hu'; simp only [eqT]; exact SeqAt.RcAt.str_tuple _ _ pt' (by omega)
  | lst c2 => obtain ⟨l', xs', ds', rfl, k1, k2, k3⟩ := h2.zeX p r2; cases v2; obtain ⟨its', w2, pl', _⟩ := I.list k1; simp only [dep] at hu'; simp only [eqT]; exact SeqAt.RcAt.str_list _ _ pl'.isList (by omega)
 | .tup c, u, A, d, e, x, y, a, b, hu, hu', h1, h2, r1, r2, v1, v2 => by
  obtain ⟨l, xs, ds, rfl, g1, g2, g3⟩ := h1.zew r1; cases v1; obtain ⟨its, w1, pt, _⟩ := I.tuple g1; simp only [dep] at hu
  cases u with
  | dic => simp only [dep] at hu'; omega
  | non => have q := h2.flat r2; subst q; cases v2; simp only [eqT]; exact SeqAt.RcAt.tuple_none pt (by omega)
  | bl c2 => have q := h2.flat r2; subst q; cases v2; simp only [eqT]; exact SeqAt.RcAt.tuple_bool _ pt (by omega)
  | int c2 => have q := h2.flat r2; subst q; obtain ⟨tk2, rfl⟩ := v2; simp only [eqT]; exact SeqAt.RcAt.tuple_int _ _ pt (by omega)
  | str c2 => have q := h2.flat r2; subst q; obtain ⟨tk2, rfl⟩ := v2; simp only [eqT]; exact SeqAt.RcAt.tuple_str _ _ pt (by omega)
  | tup c2 =>
   obtain ⟨l', xs', ds', rfl, k1, k2, k3⟩ := h2.zew r2; cases v2; obtain ⟨its', w2, pt', _⟩ := I.tuple k1; simp only [dep] at hu'
   have e1 : its.toArray.size = c.length := by rw [List.size_toArray, <- w1.length, <- g2.length, <- g3.length]
   have e2 : its'.toArray.size = c2.length := by rw [List.size_toArray, <- w2.length, <- k2.length, <- k3.length]
   have q := SeqAt.RcAt.tuples (A := A) (e := fun j => eqT (c.getD j .non) (c2.getD j .non)) pt pt' (by omega) fun j h1 h2 => by
    have := zen I p c c2 (A := A.in1) (by show A.units + 1 + ze6 c < cLine; omega) (by show A.units + 1 + ze6 c2 < cLine; omega) g3 k3 g2 k2 w1 w2 j (by simpa using h1) (by simpa using h2)
    simpa using this
   rw [e1, e2] at q
   simp only [eqT, zcj]
   exact q
  | lst c2 => obtain ⟨l', xs', ds', rfl, k1, k2, k3⟩ := h2.zeX p r2; cases v2; obtain ⟨its', w2, pl', _⟩ := I.list k1; simp only [dep] at hu'; simp only [eqT]; exact SeqAt.RcAt.tuple_list pt pl'.isList (by omega)
 | .lst c, u, A, d, e, x, y, a, b, hu, hu', h1, h2, r1, r2, v1, v2 => by
  obtain ⟨l, xs, ds, rfl, g1, g2, g3⟩ := h1.zeX p r1; cases v1; obtain ⟨its, w1, pl, _⟩ := I.list g1; simp only [dep] at hu
  cases u with
  | dic => simp only [dep] at hu'; omega
  | non => have q := h2.flat r2; subst q; cases v2; simp only [eqT]; exact SeqAt.RcAt.list_none pl.isList (by omega)
  | bl c2 => have q := h2.flat r2; subst q; cases v2; simp only [eqT]; exact SeqAt.RcAt.list_bool _ pl.isList (by omega)
  | int c2 => have q := h2.flat r2; subst q; obtain ⟨tk2, rfl⟩ := v2; simp only [eqT]; exact SeqAt.RcAt.list_int _ _ pl.isList (by omega)
  | str c2 => have q := h2.flat r2; subst q; obtain ⟨tk2, rfl⟩ := v2; simp only [eqT]; exact SeqAt.RcAt.list_str _ _ pl.isList (by omega)
  | tup c2 => obtain ⟨l', xs', ds', rfl, k1, k2, k3⟩ := h2.zew r2; cases v2; obtain ⟨its', w2, pt', _⟩ := I.tuple k1; simp only [dep] at hu'; simp only [eqT]; exact SeqAt.RcAt.list_tuple pl.isList pt' (by omega)
  | lst c2 =>
   obtain ⟨l', xs', ds', rfl, k1, k2, k3⟩ := h2.zeX p r2; cases v2; obtain ⟨its', w2, pl', _⟩ := I.list k1; simp only [dep] at hu'
   have e1 : its.toArray.size = c.length := by rw [List.size_toArray, <- w1.length, <- g2.length, <- g3.length]
   have e2 : its'.toArray.size = c2.length := by rw [List.size_toArray, <- w2.length, <- k2.length, <- k3.length]
   by_cases hsz : c.length = c2.length
   ·have q := SeqAt.RcAt.lists (A := A) (e := fun j => eqT (c.getD j .non) (c2.getD j .non)) pl.isList pl'.isList (by rw [e1, e2]; exact hsz) (by omega) fun j h1 h2 => by
     have := zen I p c c2 (A := A.in1) (by show A.units + 1 + ze6 c < cLine; omega) (by show A.units + 1 + ze6 c2 < cLine; omega) g3 k3 g2 k2 w1 w2 j (by simpa using h1) (by simpa using h2)
     simpa using this
    rw [e1] at q
    simp only [eqT, zcj]
    rw [<- hsz, Nat.min_self]
    simpa using q
   ·have q := SeqAt.RcAt.lists_lengths (A := A) pl.isList pl'.isList (by rw [e1, e2]; simpa using hsz) (by omega)
    simp only [eqT, zcj]
    have z : (c.length == c2.length) = false := by simpa using hsz
    rw [z, Bool.and_false]
    exact q
 | .dic, u, A, d, e, x, y, a, b, hu, hu', h1, h2, r1, r2, v1, v2 => by simp only [dep] at hu; omega
theorem zps (I : Inv X pins σ H s) (p : zbV X.K H S) : ∀ (t u : T) {A : Around} {d e : D} {x y : V} {a b : Value}, A.units + dep t < cLine -> A.units + dep u < cLine -> Sn S t d -> Sn S u e -> zau X.K H d x -> zau X.K H e y -> RelV x a -> RelV y b -> SeqAt.RcNeAt A s a b (!eqT t u)
 | .non, u, A, d, e, x, y, a, b, hu, hu', h1, h2, r1, r2, v1, v2 => by
  have q := h1.flat r1; subst q; cases v1
  cases u with
  | dic => simp only [dep] at hu'; omega
  | non => have q := h2.flat r2; subst q; cases v2; simp only [eqT, Bool.not_false, Bool.not_true]; exact SeqAt.RcNeAt.none_none
  | bl c2 => have q := h2.flat r2; subst q; cases v2; simp only [eqT, Bool.not_false, Bool.not_true]; exact SeqAt.RcNeAt.none_bool _
  | int c2 => have q := h2.flat r2; subst q; obtain ⟨tk2, rfl⟩ := v2; simp only [eqT, Bool.not_false, Bool.not_true]; exact SeqAt.RcNeAt.none_int _ _
  | str c2 => have q := h2.flat r2; subst q; obtain ⟨tk2, rfl⟩ := v2; simp only [eqT, Bool.not_false, Bool.not_true]; exact SeqAt.RcNeAt.none_str _ _
  | tup c2 => obtain ⟨l', xs', ds', rfl, k1, k2, k3⟩ := h2.zew r2; cases v2; obtain ⟨its', w2, pt', _⟩ := I.tuple k1; simp only [dep] at hu'; simp only [eqT, Bool.not_false, Bool.not_true]; exact SeqAt.RcNeAt.none_tuple pt' (by omega)
  | lst c2 => obtain ⟨l', xs', ds', rfl, k1, k2, k3⟩ := h2.zeX p r2; cases v2; obtain ⟨its', w2, pl', _⟩ := I.list k1; simp only [dep] at hu'; simp only [eqT, Bool.not_false, Bool.not_true]; exact SeqAt.RcNeAt.none_list pl'.isList (by omega)
 | .bl c, u, A, d, e, x, y, a, b, hu, hu', h1, h2, r1, r2, v1, v2 => by
  have q := h1.flat r1; subst q; cases v1
  cases u with
  | dic => simp only [dep] at hu'; omega
  | non => have q := h2.flat r2; subst q; cases v2; simp only [eqT, Bool.not_false, Bool.not_true]; exact SeqAt.RcNeAt.bool_none _
  | bl c2 => have q := h2.flat r2; subst q; cases v2; simp only [eqT]; exact SeqAt.RcNeAt.bool_bool _ _
  | int c2 => have q := h2.flat r2; subst q; obtain ⟨tk2, rfl⟩ := v2; simp only [eqT]; exact SeqAt.RcNeAt.bool_int _ _ _
  | str c2 => have q := h2.flat r2; subst q; obtain ⟨tk2, rfl⟩ := v2; simp only [eqT, Bool.not_false, Bool.not_true]; exact SeqAt.RcNeAt.bool_str _ _ _
  | tup c2 => obtain ⟨l', xs', ds', rfl, k1, k2, k3⟩ := h2.zew r2; cases v2; obtain ⟨its', w2, pt', _⟩ := I.tuple k1; simp only [dep] at hu'; simp only [eqT, Bool.not_false, Bool.not_true]; exact SeqAt.RcNeAt.bool_tuple _ pt' (by omega)
  | lst c2 => obtain ⟨l', xs', ds', rfl, k1, k2, k3⟩ := h2.zeX p r2; cases v2; obtain ⟨its', w2, pl', _⟩ := I.list k1; simp only [dep] at hu'; simp only [eqT, Bool.not_false, Bool.not_true]; exact SeqAt.RcNeAt.bool_list _ pl'.isList (by omega)
 | .int c, u, A, d, e, x, y, a, b, hu, hu', h1, h2, r1, r2, v1, v2 => by
  have q := h1.flat r1; subst q; obtain ⟨tk, rfl⟩ := v1
  cases u with
  | dic => simp only [dep] at hu'; omega
  | non => have q := h2.flat r2; subst q; cases v2; simp only [eqT, Bool.not_false, Bool.not_true]; exact SeqAt.RcNeAt.int_none _ _
  | bl c2 => have q := h2.flat r2; subst q; cases v2; simp only [eqT]; exact SeqAt.RcNeAt.int_bool _ _ _
  | int c2 => have q := h2.flat r2; subst q; obtain ⟨tk2, rfl⟩ := v2; simp only [eqT]; exact SeqAt.RcNeAt.int_int _ _ _ _
  | str c2 => have q := h2.flat r2; subst q; obtain ⟨tk2, rfl⟩ := v2; simp only [eqT, Bool.not_false, Bool.not_true]; exact SeqAt.RcNeAt.int_str _ _ _ _
  | tup c2 => obtain ⟨l', xs', ds', rfl, k1, k2, k3⟩ := h2.zew r2; cases v2; obtain ⟨its', w2, pt', _⟩ := I.tuple k1; simp only [dep] at hu'; simp only [eqT, Bool.not_false, Bool.not_true]; exact SeqAt.RcNeAt.int_tuple _ _ pt' (by omega)
  | lst c2 => obtain ⟨l', xs', ds', rfl, k1, k2, k3⟩ := h2.zeX p r2; cases v2; obtain ⟨its', w2, pl', _⟩ := I.list k1; simp only [dep] at hu'; simp only [eqT, Bool.not_false, Bool.not_true]; exact SeqAt.RcNeAt.int_list _ _ pl'.isList (by omega)
 | .str c, u, A, d, e, x, y, a, b, hu, hu', h1, h2, r1, r2, v1, v2 => by
  have q := h1.flat r1; subst q; obtain ⟨tk, rfl⟩ := v1
  cases u with
  | dic => simp only [dep] at hu'; omega
  | non => have q := h2.flat r2; subst q; cases v2; simp only [eqT, Bool.not_false, Bool.not_true]; exact SeqAt.RcNeAt.str_none _ _
  | bl c2 => have q := h2.flat r2; subst q; cases v2; simp only [eqT, Bool.not_false, Bool.not_true]; exact SeqAt.RcNeAt.str_bool _ _ _
  | int c2 => have q := h2.flat r2; subst q; obtain ⟨tk2, rfl⟩ := v2; simp only [eqT, Bool.not_false, Bool.not_true]; exact SeqAt.RcNeAt.str_int _ _ _ _
  | str c2 => have q := h2.flat r2; subst q; obtain ⟨tk2, rfl⟩ := v2; simp only [eqT]; exact SeqAt.RcNeAt.str_str _ _ _ _
  | tup c2 => obtain ⟨l', xs', ds', rfl, k1, k2, k3⟩ := h2.zew r2; cases v2; obtain ⟨its', w2, pt', _⟩ := I.tuple k1; simp only [dep] at hu'; simp only [eqT, Bool.not_false, Bool.not_true]; exact SeqAt.RcNeAt.str_tuple _ _ pt' (by omega)
  | lst c2 => obtain ⟨l', xs', ds', rfl, k1, k2, k3⟩ := h2.zeX p r2; cases v2; obtain ⟨its', w2, pl', _⟩ := I.list k1; simp only [dep] at hu'; simp only [eqT, Bool.not_false, Bool.not_true]; exact SeqAt.RcNeAt.str_list _ _ pl'.isList (by omega)
 | .tup c, u, A, d, e, x, y, a, b, hu, hu', h1, h2, r1, r2, v1, v2 => by
  obtain ⟨l, xs, ds, rfl, g1, g2, g3⟩ := h1.zew r1; cases v1; obtain ⟨its, w1, pt, _⟩ := I.tuple g1; simp only [dep] at hu
  cases u with
  | dic => simp only [dep] at hu'; omega
  | non => have q := h2.flat r2; subst q; cases v2; simp only [eqT, Bool.not_false, Bool.not_true]; exact SeqAt.RcNeAt.tuple_none pt (by omega)
  | bl c2 => have q := h2.flat r2; subst q; cases v2; simp only [eqT, Bool.not_false, Bool.not_true]; exact SeqAt.RcNeAt.tuple_bool _ pt (by omega)
  | int c2 => have q := h2.flat r2; subst q; obtain ⟨tk2, rfl⟩ := v2; simp only [eqT, Bool.not_false, Bool.not_true]; exact SeqAt.RcNeAt.tuple_int _ _ pt (by omega)
  | str c2 => have q := h2.flat r2; subst q; obtain ⟨tk2, rfl⟩ := v2; simp only [eqT, Bool.not_false, Bool.not_true]; exact SeqAt.RcNeAt.tuple_str _ _ pt (by omega)
  | tup c2 =>
   obtain ⟨l', xs', ds', rfl, k1, k2, k3⟩ := h2.zew r2; cases v2; obtain ⟨its', w2, pt', _⟩ := I.tuple k1; simp only [dep] at hu'
   have e1 : its.toArray.size = c.length := by rw [List.size_toArray, <- w1.length, <- g2.length, <- g3.length]
   have e2 : its'.toArray.size = c2.length := by rw [List.size_toArray, <- w2.length, <- k2.length, <- k3.length]
   have q := SeqAt.RcNeAt.tuples (A := A) (e := fun j => eqT (c.getD j .non) (c2.getD j .non)) pt pt' (by omega) fun j h1 h2 => by
    have := zen I p c c2 (A := A.in1) (by show A.units + 1 + ze6 c < cLine; omega) (by show A.units + 1 + ze6 c2 < cLine; omega) g3 k3 g2 k2 w1 w2 j (by simpa using h1) (by simpa using h2)
    simpa using this
   rw [e1, e2] at q
   simp only [eqT, zcj]
   exact q
  | lst c2 => obtain ⟨l', xs', ds', rfl, k1, k2, k3⟩ := h2.zeX p r2; cases v2; obtain ⟨its', w2, pl', _⟩ := I.list k1; simp only [dep] at hu'; simp only [eqT, Bool.not_false, Bool.not_true]; exact SeqAt.RcNeAt.tuple_list pt pl'.isList (by omega)
 | .lst c, u, A, d, e, x, y, a, b, hu, hu', h1, h2, r1, r2, v1, v2 => by
  obtain ⟨l, xs, ds, rfl, g1, g2, g3⟩ := h1.zeX p r1; cases v1; obtain ⟨its, w1, pl, _⟩ := I.list g1; simp only [dep] at hu
  cases u with
  | dic => simp only [dep] at hu'; omega
  | non => have q := h2.flat r2; subst q; cases v2; simp only [eqT, Bool.not_false, Bool.not_true]; exact SeqAt.RcNeAt.list_none pl.isList (by omega)
  | bl c2 => have q := h2.flat r2; subst q; cases v2; simp only [eqT, Bool.not_false, Bool.not_true]; exact SeqAt.RcNeAt.list_bool _ pl.isList (by omega)
  | int c2 => have q := h2.flat r2; subst q; obtain ⟨tk2, rfl⟩ := v2; simp only [eqT, Bool.not_false, Bool.not_true]; exact SeqAt.RcNeAt.list_int _ _ pl.isList (by omega)
  | str c2 => have q := h2.flat r2; subst q; obtain ⟨tk2, rfl⟩ := v2; simp only [eqT, Bool.not_false, Bool.not_true]; exact SeqAt.RcNeAt.list_str _ _ pl.isList (by omega)
  | tup c2 => obtain ⟨l', xs', ds', rfl, k1, k2, k3⟩ := h2.zew r2; cases v2; obtain ⟨its', w2, pt', _⟩ := I.tuple k1; simp only [dep] at hu'; simp only [eqT, Bool.not_false, Bool.not_true]; exact SeqAt.RcNeAt.list_tuple pl.isList pt' (by omega)
  | lst c2 =>
   obtain ⟨l', xs', ds', rfl, k1, k2, k3⟩ := h2.zeX p r2; cases v2; obtain ⟨its', w2, pl', _⟩ := I.list k1; simp only [dep] at hu'
   have e1 : its.toArray.size = c.length := by rw [List.size_toArray, <- w1.length, <- g2.length, <- g3.length]
   have e2 : its'.toArray.size = c2.length := by rw [List.size_toArray, <- w2.length, <- k2.length, <- k3.length]
   by_cases hsz : c.length = c2.length
   ·have q := SeqAt.RcNeAt.lists (A := A) (e := fun j => eqT (c.getD j .non) (c2.getD j .non)) pl.isList pl'.isList (by rw [e1, e2]; exact hsz) (by omega) fun j h1 h2 => by
     have := zen I p c c2 (A := A.in1) (by show A.units + 1 + ze6 c < cLine; omega) (by show A.units + 1 + ze6 c2 < cLine; omega) g3 k3 g2 k2 w1 w2 j (by simpa using h1) (by simpa using h2)
     simpa using this
    rw [e1] at q
    simp only [eqT, zcj]
    rw [<- hsz, Nat.min_self]
    simpa using q
   ·have q := SeqAt.RcNeAt.lists_lengths (A := A) pl.isList pl'.isList (by rw [e1, e2]; simpa using hsz) (by omega)
    simp only [eqT, zcj]
    have z : (c.length == c2.length) = false := by simpa using hsz
    rw [z, Bool.and_false]
    exact q
 | .dic, u, A, d, e, x, y, a, b, hu, hu', h1, h2, r1, r2, v1, v2 => by simp only [dep] at hu; omega
end
def znX (K : PySem.W.Frag) (neg : Bool) : R2 := fun x y H Q => ∃ S d e t u, zau K H d x /\ zau K H e y /\ zbV K H S /\ Sn S t d /\ Sn S u e /\ dep t <= 60 /\ dep u <= 60 /\ Q (.bl (cond neg (!eqT t u) (eqT t u))) H
def fEq (neg : Bool) : RD2 := fun x y S Q => ∃ t u, Sn S t x /\ Sn S u y /\ dep t <= 60 /\ dep u <= 60 /\ Q (.bl (cond neg (!eqT t u) (eqT t u))) S
theorem fEq.mo {neg : Bool} : MoR (fEq neg) := fun _ _ _ _ _ hq ⟨t, u, a, b, c, d, h⟩ => ⟨t, u, a, b, c, d, hq _ _ h⟩
theorem fEq.fits {K : PySem.W.Frag} {neg : Bool} : zcZ K (fEq neg) (znX K neg) := fun x y d e H S Q h1 h2 h3 ⟨t, u, a, b, c, c', h⟩ => ⟨S, d, e, t, u, h1, h2, h3, a, b, c, c', h _ H (by simp only [zau]) (.refl H) h3⟩
section
variable {X : Cx} {a b : Expr} {ta tb : TDE} {pos : Pos}
theorem zns (hu : X.A.units + 64 < cLine) : OpR X (compareOp .Eq) (znX X.K false) := by
 intro pins s σ H x y v u Q I rx ry h
 obtain ⟨S, d, e, t, u', a1, a2, a3, a4, a5, a6, a7, q⟩ := h
 exact zpt I a3 t u' (A := X.A) (by omega) (by omega) a4 a5 a1 a2 rx ry X.prog X.w X.xe _ ⟨.bl _, H, I, rfl, q⟩
theorem zp4 (hu : X.A.units + 64 < cLine) : OpR X (compareOp .NotEq) (znX X.K true) := by
 intro pins s σ H x y v u Q I rx ry h
 obtain ⟨S, d, e, t, u', a1, a2, a3, a4, a5, a6, a7, q⟩ := h
 exact zps I a3 t u' (A := X.A) (by omega) (by omega) a4 a5 a1 a2 rx ry X.prog X.w X.xe _ ⟨.bl _, H, I, rfl, q⟩
theorem zjb {k : Nat} (hr : ze2 k X.A) (ha : PD X a ta) (hb : PD X b tb) : PD X (.Compare a [.Eq] [b] pos) (dOp (fEq false) ta tb) := zhQ (zns hr.units) fEq.fits fEq.mo ha hb (zeV _)
theorem zgU {k : Nat} (hr : ze2 k X.A) (ha : PD X a ta) (hb : PD X b tb) : PDT X (.Compare a [.Eq] [b] pos) (zfE (dOp (fEq false) ta tb)) := zfT (zns hr.units) fEq.fits fEq.mo ha hb (zeV _)
theorem zfa {k : Nat} (hr : ze2 k X.A) (ha : PD X a ta) (hb : PD X b tb) : PDT X (.Compare a [.NotEq] [b] pos) (zfE (dOp (fEq true) ta tb)) := zfT (zp4 hr.units) fEq.fits fEq.mo ha hb (zeV _)
def zr8 (K : PySem.W.Frag) (neg : Bool) : R2 := fun x y H Q => ∃ S d e u ts ds, zau K H d x /\ zau K H e y /\ zbV K H S /\ Sn S u d /\ za7 e S = some ds /\ Sns S ts ds /\ dep u <= 60 /\ ze6 ts <= 60 /\ Q (.bl (cond neg (!(ts.any fun t => eqT t u)) (ts.any fun t => eqT t u))) H
def fIn (neg : Bool) : RD2 := fun x y S Q => ∃ u ts ds, Sn S u x /\ za7 y S = some ds /\ Sns S ts ds /\ dep u <= 60 /\ ze6 ts <= 60 /\ Q (.bl (cond neg (!(ts.any fun t => eqT t u)) (ts.any fun t => eqT t u))) S
theorem fIn.mo {neg : Bool} : MoR (fIn neg) := fun _ _ _ _ _ hq ⟨u, ts, ds, a, b, c, d, e, h⟩ => ⟨u, ts, ds, a, b, c, d, e, hq _ _ h⟩
theorem fIn.fits {K : PySem.W.Frag} {neg : Bool} : zcZ K (fIn neg) (zr8 K neg) := fun x y d e H S Q h1 h2 h3 ⟨u, ts, ds, a, b, c, c', c2, h⟩ => ⟨S, d, e, u, ts, ds, h1, h2, h3, a, b, c, c', c2, h _ H (by simp only [zau]) (.refl H) h3⟩
open Classical in
noncomputable def zgq (its : List Value) (ts : List T) (u : T) (v : Value) : Bool := if h : ∃ j, its[j]? = some v then eqT (ts.getD (Classical.choose h) .non) u else false
theorem zlR {pins : List (Addr × Obj)} {σ : St} {H : Hp} {s : Shared} {S : SS} (I : Inv X pins σ H s) (p : zbV X.K H S) {ts : List T} {ds : List D} {xs : List V} {its : List Value} (h1 : Sns S ts ds) (h2 : zak X.K H ds xs) (h3 : Vals xs its) (u : T) {j : Nat} {v : Value} (hj : its[j]? = some v) :
  zgq its ts u v = eqT (ts.getD j .non) u := by
 have h : ∃ j, its[j]? = some v := ⟨j, hj⟩
 unfold zgq
 rw [dif_pos h]
 have hc := Classical.choose_spec h
 have lt : ∀ i, its[i]? = some v -> i < ts.length := fun i hi => by
  rw [h1.length, h2.length, h3.length]
  exact (List.getElem?_eq_some_iff.mp hi).1
 obtain ⟨c1, e1, s1⟩ := h1.get (lt _ hc)
 obtain ⟨c2, e2, s2⟩ := h1.get (lt _ hj)
 obtain ⟨x1, f1, r1⟩ := h2.get e1
 obtain ⟨x2, f2, r2⟩ := h2.get e2
 obtain ⟨v1, g1, q1⟩ := h3.get f1
 obtain ⟨v2, g2, q2⟩ := h3.get f2
 rw [hc] at g1; cases g1
 rw [hj] at g2; cases g2
 have hx := q1.inj q2
 subst hx
 rw [zi3 I p _ _ s1 s2 r1 r2]
theorem zlQ {pins : List (Addr × Obj)} {σ : St} {H : Hp} {s : Shared} {S : SS} (I : Inv X pins σ H s) (p : zbV X.K H S) {ts : List T} {ds : List D} {xs : List V} {its : List Value} (h1 : Sns S ts ds) (h2 : zak X.K H ds xs) (h3 : Vals xs its) (u : T) : its.any (zgq its ts u) = ts.any fun t => eqT t u := by
 have hl : ts.length = its.length := by rw [h1.length, h2.length, h3.length]
 rw [Bool.eq_iff_iff, List.any_eq_true, List.any_eq_true]
 constructor
 ·rintro ⟨v, hv, h⟩
  obtain ⟨j, hj, rfl⟩ := List.mem_iff_getElem.mp hv
  rw [zlR I p h1 h2 h3 u (j := j) (by simp [hj])] at h
  have hj' : j < ts.length := by omega
  exact ⟨ts[j], List.getElem_mem hj', by simpa [hj'] using h⟩
 ·rintro ⟨t, ht, h⟩
  obtain ⟨j, hj, rfl⟩ := List.mem_iff_getElem.mp ht
  have hj' : j < its.length := by omega
  exact ⟨its[j], List.getElem_mem hj', by rw [zlR I p h1 h2 h3 u (j := j) (by simp [hj'])]; simpa [hj] using h⟩
theorem znJ {pins : List (Addr × Obj)} {σ : St} {H : Hp} {s : Shared} {S : SS} (I : Inv X pins σ H s) (p : zbV X.K H S) {ts : List T} {ds : List D} {xs : List V} {its : List Value} (h1 : Sns S ts ds) (h2 : zak X.K H ds xs) (h3 : Vals xs its) {u : T} {d : D} {x : V} {v : Value} (hu : Sn S u d) (hd : zau X.K H d x) (hx : RelV x v) {A : Around} (b1 : A.units + ze6 ts < cLine) (b2 : A.units + dep u < cLine) {y : Value} (hy : y ∈ its) :
  SeqAt.EqAt A s y v (zgq its ts u y) := by
 obtain ⟨j, hj, rfl⟩ := List.mem_iff_getElem.mp hy
 have hjt : j < ts.length := by rw [h1.length, h2.length, h3.length]; exact hj
 rw [zlR I p h1 h2 h3 u (j := j) (by simp [hj])]
 obtain ⟨c1, e1, s1⟩ := h1.get hjt
 obtain ⟨x1, f1, r1⟩ := h2.get e1
 obtain ⟨v1, g1, q1⟩ := h3.get f1
 have : its[j] = v1 := by
  have := List.getElem?_eq_some_iff.mp g1
  exact this.2
 rw [this]
 have := zjm hjt
 exact znH I p _ u (A := A) (by omega) b2 s1 hu r1 hd q1 hx
theorem zqa (hu : X.A.units + 64 < cLine) : OpR X (compareOp .In) (zr8 X.K false) := by
 intro pins s σ H x y v w Q I rx ry h
 obtain ⟨S, d, e, u, ts, ds, a1, a2, a3, a4, a5, a6, a7, a8, q⟩ := h
 obtain ⟨l, xs, rfl, g1, g2⟩ := za7.sq a2 a3 a5
 cases ry
 rcases g1 with g1 | g1
 ·obtain ⟨its, w1, pl, _⟩ := I.list g1
  refine SeqAt.in_listAt (zgq its ts u) pl.isList (fun y hy => znJ I a3 a6 g2 w1 a4 a1 rx (A := X.A.in1) (by show X.A.units + 1 + _ < _; omega) (by show X.A.units + 1 + _ < _; omega) (by simpa using hy)) ⟨.bl _, H, I, rfl, ?_⟩
  rw [show its.toArray.any (zgq its ts u) = its.any (zgq its ts u) by simp, zlQ I a3 a6 g2 w1]
  exact q
 ·obtain ⟨its, w1, pt, _⟩ := I.tuple g1
  refine SeqAt.in_tupleAt (zgq its ts u) pt (fun y hy => znJ I a3 a6 g2 w1 a4 a1 rx (A := X.A.in1) (by show X.A.units + 1 + _ < _; omega) (by show X.A.units + 1 + _ < _; omega) (by simpa using hy)) ⟨.bl _, H, I, rfl, ?_⟩
  rw [show its.toArray.any (zgq its ts u) = its.any (zgq its ts u) by simp, zlQ I a3 a6 g2 w1]
  exact q
theorem zoe {k : Nat} (hr : ze2 k X.A) (ha : PD X a ta) (hb : PD X b tb) (hm : behindInMarks .In b = false := by rfl) : PD X (.Compare a [.In] [b] pos) (dOp (fIn false) ta tb) := zhQ (zqa hr.units) fIn.fits fIn.mo ha hb hm
end
end L3
namespace L2
open PySem PySem.Spec PyProof.Rows
section
variable {κ : Type} [DecidableEq κ]
end
section
variable {P : Program} {w : World} {H : Hp} {h : Heap} {a : Addr}
end
section
variable {X : Cx} {pins : List (Addr × Obj)} {σ : St} {H : Hp} {s : Shared} {a : Addr} {y v : V} {u r : Value} {o : Option V} {A : Around} {E : Value -> Shared -> Prop}
theorem Inv.big (I : Inv X pins σ H s) : sysModules < s.heap.objs.size := by
 have h : mainGlobals < s.heap.objs.size := (I.mod.glob.keeps I.bk).lt
 exact Nat.lt_trans (by decide) h
end
section
variable {X : Cx} {pins : List (Addr × Obj)} {σ : St} {H : Hp} {s : Shared} {a : Addr} {kvs : List (Key × V)} {k : Key} {u : Value} {A : Around} {E : Value -> Shared -> Prop}
end
section
variable {X : Cx} {o i e value : Expr} {pos pos' tpos : Pos} {td ty tv : TE}
end
theorem zmR {P : Program} {w : World} {H : Hp} (h : Heap) (hb : sysModules < h.objs.size) : zdk P w H (h.push { cls := .type "dict", data := .dict #[] }) h.objs.size (.dK []) :=
 ⟨Nat.zero_le _, beq_eq_false_iff_ne.mpr (Ne.symm (Nat.ne_of_lt hb)), [], .nil, Heap.DictOf.new h⟩
def zpg : TE := fun _ H Q => ∀ p, H p = none -> Q (.ref p) (upd H p (.dK []))
section
variable {X : Cx} {pos : Pos}
theorem zmr : PE X (.Dict [] [] pos) zpg := fun pins s σ H Q I h =>
 wpAny_Dict_empty ⟨.ref s.heap.objs.size, _, I.laid (a := s.heap.objs.size) (o := .dK []) (t' := s.toks) (fun _ _ q => Heap.get?_push_of_some _ q) (Nat.le_refl _) (zmR s.heap I.big), rfl, h _ (I.hok.fresh (Nat.le_refl _))⟩
end
section
variable {X : Cx} {pins : List (Addr × Obj)} {σ : St} {H : Hp} {s : Shared} {a : Addr} {y d : V} {u r : Value} {o : Option V} {A : Around} {E : Value -> Shared -> Prop}
end
section
variable {X : Cx} {o e f : Expr} {apos cpos : Pos} {td ty tx : TE}
end
section
variable {X : Cx} {pins : List (Addr × Obj)} {σ : St} {H : Hp} {s : Shared} {a : Addr} {kvs : List (Key × V)} {A : Around} {E : Value -> Shared -> Prop}
end
section
variable {X : Cx} {pins : List (Addr × Obj)} {σ : St} {H : Hp} {s : Shared} {a : Addr} {y : V} {u : Value} {A : Around} {E : Value -> Shared -> Prop}
end
end L2
namespace L3
open PySem PySem.Spec L2
open PyProof.Rows hiding St
section
variable {K : PySem.W.Frag} {H : Hp}
end
section
variable {X : Cx} {K : PySem.W.Frag} {o i e f v : Expr} {td ty tx tv : TDE} {pos pos' apos cpos : Pos}
def znI : TDE := fun _ S Q => ∀ p, S p = none -> Q (.ref p) (ups S p (.dct []))
theorem zmv : PD X (.Dict [] [] pos) znI := by
 refine ⟨fun _ _ _ _ hq z p hp => hq _ _ (z p hp), PE.imp zmr fun σ H Q hu p hp => ?_⟩
 obtain ⟨δ, S, r1, r2, z⟩ := hu
 exact z p (r2.none hp) _ _ (by simp only [zau]) (.new hp _) (r2.ups (.new hp _) ⟨[], zaA, .nil⟩)
end
end L3
namespace L3
open PySem L2
section
variable {S S' : SS}
mutual
theorem Sn.sx (h : Sx S S') : ∀ (t : T) {d : D}, Sn S t d -> Sn S' t d
 | .non, d, q => by simpa only [Sn] using q
 | .bl b, d, q => by simpa only [Sn] using q
 | .int i, d, q => by simpa only [Sn] using q
 | .str x, d, q => by simpa only [Sn] using q
 | .tup ts, d, q => by
  simp only [Sn] at q ⊢
  obtain ⟨ds, q1, q2⟩ := q
  exact ⟨ds, q1, Sns.sx h ts q2⟩
 | .lst ts, d, q => by
  simp only [Sn] at q ⊢
  obtain ⟨ds, q1, q2⟩ := q
  refine ⟨ds, ?_, Sns.sx h ts q2⟩
  rcases q1 with q1 | ⟨a, q1, q3⟩
  ·exact .inl q1
  ·exact .inr ⟨a, q1, h _ _ q3⟩
 | .dic, d, q => by
  simp only [Sn] at q ⊢
  obtain ⟨a, kvs, q1, q2⟩ := q
  exact ⟨a, kvs, q1, h _ _ q2⟩
theorem Sns.sx (h : Sx S S') : ∀ (ts : List T) {ds : List D}, Sns S ts ds -> Sns S' ts ds
 | [], ds, q => by simpa only [Sns] using q
 | t :: ts, ds, q => by
  simp only [Sns] at q ⊢
  obtain ⟨c, cs, q1, q2, q3⟩ := q
  exact ⟨c, cs, q1, Sn.sx h t q2, Sns.sx h ts q3⟩
end
theorem Sns.nil : Sns S [] [] := by simp only [Sns]
theorem Sns.cons {t : T} {ts : List T} {d : D} {ds : List D} (h : Sn S t d) (h' : Sns S ts ds) : Sns S (t :: ts) (d :: ds) := by
 simp only [Sns]; exact ⟨d, ds, rfl, h, h'⟩
theorem Sns.append : ∀ {ts us : List T} {ds es : List D}, Sns S ts ds -> Sns S us es -> Sns S (ts ++ us) (ds ++ es)
 | [], us, ds, es, h, h' => by simp only [Sns] at h; subst h; simpa using h'
 | t :: ts, us, ds, es, h, h' => by
  simp only [Sns] at h
  obtain ⟨c, cs, rfl, h1, h2⟩ := h
  exact Sns.cons h1 (Sns.append h2 h')
theorem Sns.zrC : ∀ {ts : List T} {ds : List D} {i : Nat} {t : T}, Sns S ts ds -> ts[i]? = some t -> ∃ d, ds[i]? = some d /\ Sn S t d
 | [], _, i, t, _, e => by simp at e
 | u :: ts, ds, i, t, h, e => by
  simp only [Sns] at h
  obtain ⟨c, cs, rfl, h1, h2⟩ := h
  cases i with
  | zero => simp at e; subst e; exact ⟨c, rfl, h1⟩
  | succ i =>
   obtain ⟨y, e1, e2⟩ := Sns.zrC (i := i) h2 (by simpa using e)
   exact ⟨y, by simpa using e1, e2⟩
theorem Sns.zoG : ∀ {ts : List T} {ds : List D} {i : Nat} {d : D}, Sns S ts ds -> ds[i]? = some d -> ∃ t, ts[i]? = some t /\ Sn S t d
 | [], ds, i, t, h, e => by simp only [Sns] at h; subst h; simp at e
 | u :: ts, ds, i, t, h, e => by
  simp only [Sns] at h
  obtain ⟨c, cs, rfl, h1, h2⟩ := h
  cases i with
  | zero => simp at e; subst e; exact ⟨u, rfl, h1⟩
  | succ i =>
   obtain ⟨y, e1, e2⟩ := Sns.zoG (i := i) h2 (by simpa using e)
   exact ⟨y, by simpa using e1, e2⟩
theorem Sns.len {ts : List T} {ds : List D} (h : Sns S ts ds) : ds.length = ts.length := (L3.Sns.length h).symm
theorem Sns.at {ts : List T} {ds : List D} {i : Int} {t : T} (h : Sns S ts ds) (e : L2.atI ts i = some t) : ∃ d, L2.atI ds i = some d /\ Sn S t d := by
 unfold L2.atI at e ⊢
 rw [h.len]
 cases q : L2.ixN ts.length i with
 | none => rw [q] at e; cases e
 | some j =>
  rw [q] at e
  exact h.zrC e
theorem Sns.zr0 : ∀ {ts : List T} {ds : List D} {t : T} {d : D} (i : Nat), Sns S ts ds -> Sn S t d -> Sns S (ts.set i t) (ds.set i d)
 | [], ds, t, d, i, h, _ => by simp only [Sns] at h; subst h; simpa using Sns.nil
 | u :: ts, ds, t, d, 0, h, hd => by
  simp only [Sns] at h
  obtain ⟨c, cs, rfl, h1, h2⟩ := h
  exact Sns.cons hd h2
 | u :: ts, ds, t, d, i + 1, h, hd => by
  simp only [Sns] at h
  obtain ⟨c, cs, rfl, h1, h2⟩ := h
  exact Sns.cons h1 (Sns.zr0 i h2 hd)
theorem Sns.take' : ∀ {ts : List T} {ds : List D} (n : Nat), Sns S ts ds -> Sns S (ts.take n) (ds.take n)
 | ts, ds, 0, h => by simpa using Sns.nil
 | [], ds, n + 1, h => by simp only [Sns] at h; subst h; simpa using Sns.nil
 | t :: ts, ds, n + 1, h => by
  simp only [Sns] at h
  obtain ⟨c, cs, rfl, h1, h2⟩ := h
  exact Sns.cons h1 (Sns.take' n h2)
theorem Sns.drop' : ∀ {ts : List T} {ds : List D} (n : Nat), Sns S ts ds -> Sns S (ts.drop n) (ds.drop n)
 | ts, ds, 0, h => h
 | [], ds, n + 1, h => by simp only [Sns] at h; subst h; simpa using Sns.nil
 | t :: ts, ds, n + 1, h => by
  simp only [Sns] at h
  obtain ⟨c, cs, rfl, h1, h2⟩ := h
  exact Sns.drop' n h2
theorem Sns.empty {ts : List T} {ds : List D} (h : Sns S ts ds) : ds.isEmpty = ts.isEmpty := by
 have := h.len
 cases ds <;> cases ts <;> simp_all
theorem Sns.bls : ∀ {bs : List Bool} {ds : List D}, Sns S (bs.map T.bl) ds -> ds = bs.map D.bl
 | [], ds, h => by simpa only [List.map_nil, Sns] using h
 | b :: bs, ds, h => by
  rw [List.map_cons] at h
  simp only [Sns, Sn] at h
  obtain ⟨c, cs, rfl, rfl, h3⟩ := h
  rw [Sns.bls h3]; rfl
end
end L3
namespace L5
open PySem L2 L3
noncomputable def hid (S : SS) (Z : Addr -> Prop) : SS := open Classical in fun a => if Z a then none else S a
section
variable {S S' S1 : SS} {Z Z' : Addr -> Prop} {a p : Addr}
theorem zdF (h : ¬ Z a) : hid S Z a = S a := if_neg h
theorem zoC (h : Z a) : hid S Z a = none := if_pos h
theorem zci {o : O} (h : hid S Z a = some o) : ¬ Z a /\ S a = some o := by
 by_cases z : Z a
 ·rw [zoC z] at h; cases h
 ·rw [zdF z] at h; exact ⟨z, h⟩
theorem zjk (S : SS) (Z : Addr -> Prop) : Sx (hid S Z) S := fun _ _ h => (zci h).2
theorem zbY (h : Sx S S') : Sx (hid S Z) (hid S' Z) := fun b o q => by
 obtain ⟨q1, q2⟩ := zci q
 rw [zdF q1]; exact h _ _ q2
theorem zf6 (h : ∀ a, Z' a -> Z a) : Sx (hid S Z) (hid S Z') := fun b o q => by
 obtain ⟨q1, q2⟩ := zci q
 rw [zdF (fun z => q1 (h _ z))]; exact q2
theorem zfi (h : Sx S S') (hp : S p = none) : Sx (hid S Z) (hid S' fun a => Z a \/ a = p) := fun b o q => by
 obtain ⟨q1, q2⟩ := zci q
 rw [zdF]
 ·exact h _ _ q2
 ·rintro (z | z)
  ·exact q1 z
  ·subst z; rw [hp] at q2; cases q2
theorem zoD {o : O} (h : Z p) : hid (ups S p o) Z = hid S Z := by
 funext b
 by_cases z : Z b
 ·rw [zoC z, zoC z]
 ·rw [zdF z, zdF z, zeu (fun e => z (by rw [e]; exact h))]
end
inductive C where
 | lst (ts : List T) | dct (kvs : List (Key × T))
noncomputable def KVs (S : SS) : List (Key × T) -> List (Key × D) -> Prop
 | [], l => l = []
 | (k, t) :: r, l => ∃ d m, l = (k, d) :: m /\ Sn S t d /\ KVs S r m
theorem KVs.sx {S S' : SS} (h : Sx S S') : ∀ {a : List (Key × T)} {b : List (Key × D)}, KVs S a b -> KVs S' a b
 | [], _, q => q
 | (k, t) :: r, _, q => by
  obtain ⟨d, m, q1, q2, q3⟩ := q
  exact ⟨d, m, q1, Sn.sx h t q2, KVs.sx h q3⟩
noncomputable def zl5 (S : SS) : C -> O -> Prop
 | .lst ts, .lst ds => Sns S ts ds
 | .dct a, .dct b => KVs S a b
 | _, _ => False
theorem zl5.sx {S S' : SS} (h : Sx S S') : ∀ {c : C} {o : O}, zl5 S c o -> zl5 S' c o
 | .lst ts, .lst ds, q => Sns.sx h ts q
 | .dct a, .dct b, q => KVs.sx h q
inductive W where
 | im (t : T) | own (c : C)
abbrev Ev := List (Option W)
structure ER (S : SS) (Z : Addr -> Prop) (δ : StD) (ρ : Ev) : Prop where
 zd : ∀ a, Z a -> S a ≠ none
 im : ∀ (i : Nat) t, ρ[i]? = some (some (.im t)) -> ∃ d, δ[i]? = some (some d) /\ Sn (hid S Z) t d
 ow : ∀ (i : Nat) c, ρ[i]? = some (some (.own c)) -> ∃ p o, δ[i]? = some (some (.ref p)) /\ S p = some o /\ zl5 (hid S Z) c o /\ Z p
def Vw (S : SS) (Z : Addr -> Prop) (y : T) (d : D) : Prop := Sn (hid S Z) y d \/ ∃ ts p ds, y = .lst ts /\ d = .ref p /\ S p = some (.lst ds) /\ Sns (hid S Z) ts ds /\ Z p
abbrev Rk := SS -> SS -> (Addr -> Prop) -> T -> D -> Prop
def RkR : Rk := fun _ S' Z y d => Vw S' Z y d
def RkV : Rk := fun _ S' Z y d => Sn (hid S' Z) y d
def RkF : Rk := fun S S' Z y d => Sn (hid S' Z) y d /\ ∀ ts, y = .lst ts -> ∃ p ds, d = .ref p /\ S p = none /\ S' p = some (.lst ds) /\ Sns (hid S' fun a => Z a \/ a = p) ts ds
class Cl (R : Rk) : Prop where
 cl : ∀ {S S1 S' : SS} {Z : Addr -> Prop} {y : T} {d : D}, Sx S S1 -> R S1 S' Z y d -> R S S' Z y d
 of : ∀ {S S' : SS} {Z : Addr -> Prop} {y : T} {d : D}, (∀ ts, y ≠ .lst ts) -> Sn (hid S' Z) y d -> R S S' Z y d
instance : Cl RkR := ⟨fun _ h => h, fun _ h => .inl h⟩
instance : Cl RkV := ⟨fun _ h => h, fun _ h => h⟩
instance : Cl RkF := ⟨fun s h => ⟨h.1, fun ts e => by
 obtain ⟨p, ds, h1, h2, h3⟩ := h.2 ts e
 exact ⟨p, ds, h1, s.none h2, h3⟩⟩, fun n h => ⟨h, fun ts e => absurd e (n ts)⟩⟩
section
variable {S S' S1 : SS} {Z Z' : Addr -> Prop} {δ : StD} {ρ : Ev} {y : T} {d : D}
theorem ER.grow (h : ER S Z δ ρ) (s : Sx S S') : ER S' Z δ ρ :=
 ⟨fun a z q => h.zd a z (s.none q), fun i t e => by
  obtain ⟨d, h1, h2⟩ := h.im i t e
  exact ⟨d, h1, Sn.sx (zbY s) t h2⟩, fun i ts e => by
  obtain ⟨p, ds, h1, h2, h3, h4⟩ := h.ow i ts e
  exact ⟨p, ds, h1, s _ _ h2, zl5.sx (zbY s) h3, h4⟩⟩
theorem Vw.grow (h : Vw S Z y d) (s : Sx S S') : Vw S' Z y d := by
 rcases h with h | ⟨ts, p, ds, h1, h2, h3, h4, h5⟩
 ·exact .inl (Sn.sx (zbY s) y h)
 ·exact .inr ⟨ts, p, ds, h1, h2, s _ _ h3, Sns.sx (zbY s) ts h4, h5⟩
theorem Vw.sn (h : Vw S Z y d) : Sn S y d := by
 rcases h with h | ⟨ts, p, ds, rfl, rfl, h3, h4, _⟩
 ·exact Sn.sx (zjk S Z) y h
 ·simp only [Sn]
  exact ⟨ds, .inr ⟨p, rfl, h3⟩, Sns.sx (zjk S Z) ts h4⟩
theorem Vw.non (h : Vw S Z .non d) : d = .non := by
 rcases h with h | ⟨_, _, _, h, _⟩
 ·simpa only [Sn] using h
 ·cases h
theorem Vw.bl {b : Bool} (h : Vw S Z (.bl b) d) : d = .bl b := by
 rcases h with h | ⟨_, _, _, h, _⟩
 ·simpa only [Sn] using h
 ·cases h
theorem Vw.int {b : Int} (h : Vw S Z (.int b) d) : d = .int b := by
 rcases h with h | ⟨_, _, _, h, _⟩
 ·simpa only [Sn] using h
 ·cases h
theorem Vw.str {b : Str} (h : Vw S Z (.str b) d) : d = .str b := by
 rcases h with h | ⟨_, _, _, h, _⟩
 ·simpa only [Sn] using h
 ·cases h
theorem Vw.tup {ts : List T} (h : Vw S Z (.tup ts) d) : ∃ ds, d = .tup ds /\ Sns (hid S Z) ts ds := by
 rcases h with h | ⟨_, _, _, h, _⟩
 ·simpa only [Sn] using h
 ·cases h
theorem Vw.lst {ts : List T} (h : Vw S Z (.lst ts) d) : ∃ ds, (d = .rol ds \/ ∃ a, d = .ref a /\ S a = some (.lst ds)) /\ Sns (hid S Z) ts ds := by
 rcases h with h | ⟨us, p, ds, h1, h2, h3, h4, _⟩
 ·simp only [Sn] at h
  obtain ⟨ds, h1, h2⟩ := h
  refine ⟨ds, ?_, h2⟩
  rcases h1 with h1 | ⟨a, h1, h3⟩
  ·exact .inl h1
  ·exact .inr ⟨a, h1, (zci h3).2⟩
 ·cases h1
  exact ⟨ds, .inr ⟨p, h2, h3⟩, h4⟩
noncomputable def zhF : T -> Option (List T)
 | .tup ts => some ts
 | .lst ts => some ts
 | _ => none
@[simp] theorem zme (ts : List T) : zhF (.tup ts) = some ts := rfl
@[simp] theorem zmf (ts : List T) : zhF (.lst ts) = some ts := rfl
theorem Vw.seq {ts : List T} (h : Vw S Z y d) (e : zhF y = some ts) : ∃ ds, za7 d S = some ds /\ Sns (hid S Z) ts ds := by
 cases y with
 | tup us => cases e; obtain ⟨ds, rfl, h2⟩ := h.tup; exact ⟨ds, rfl, h2⟩
 | lst us =>
  cases e
  obtain ⟨ds, h1 | ⟨a, rfl, h1⟩, h2⟩ := h.lst
  ·subst h1; exact ⟨ds, rfl, h2⟩
  ·exact ⟨ds, by unfold za7; dsimp only; rw [h1], h2⟩
 | non => cases e
 | bl _ => cases e
 | int _ => cases e
 | str _ => cases e
 | dic => cases e
theorem Vw.dic (h : Vw S Z .dic d) : ∃ a kvs, d = .ref a /\ S a = some (.dct kvs) := by
 rcases h with h | ⟨_, _, _, h, _⟩
 ·simp only [Sn] at h
  obtain ⟨a, kvs, h1, h2⟩ := h
  exact ⟨a, kvs, h1, (zci h2).2⟩
 ·cases h
theorem znf : Sn S .non .non := by simp only [Sn]
theorem zei {b : Bool} : Sn S (.bl b) (.bl b) := by simp only [Sn]
theorem zda {i : Int} : Sn S (.int i) (.int i) := by simp only [Sn]
theorem zne {x : Str} : Sn S (.str x) (.str x) := by simp only [Sn]
theorem zfO {ts : List T} {ds : List D} (h : Sns S ts ds) : Sn S (.tup ts) (.tup ds) := by simp only [Sn]; exact ⟨ds, rfl, h⟩
theorem zdO {ts : List T} {ds : List D} {p : Addr} (hz : ∀ a, Z a -> S a ≠ none) (hp : S p = none) (h : Sns (hid S Z) ts ds) : RkF S (ups S p (.lst ds)) Z (.lst ts) (.ref p) := by
 have nz : ¬ Z p := fun z => hz p z hp
 have s : Sx S (ups S p (.lst ds)) := .new hp _
 refine ⟨?_, fun us e => ?_⟩
 ·simp only [Sn]
  exact ⟨ds, .inr ⟨p, rfl, by rw [zdF nz, zc0]⟩, Sns.sx (zbY s) ts h⟩
 ·cases e
  exact ⟨p, ds, rfl, hp, zc0, Sns.sx (zfi s hp) ts h⟩
end
def OkX (R : Rk) (f : Ev -> Option T) (t : TDE) : Prop := ∀ S Z δ ρ y Q, ER S Z δ ρ -> f ρ = some y -> (∀ d S', Sx S S' -> R S S' Z y d -> Q d S') -> t δ S Q
abbrev OkE := OkX RkV
abbrev OkR := OkX RkR
abbrev OkF := OkX RkF
theorem OkX.imp {R R' : Rk} {f : Ev -> Option T} {t : TDE} (h : OkX R f t) (i : ∀ S S' Z y d, R S S' Z y d -> R' S S' Z y d) : OkX R' f t := fun S Z δ ρ y Q hE e hq => h S Z δ ρ y Q hE e fun d S' s r => hq d S' s (i _ _ _ _ _ r)
theorem OkX.er {f : Ev -> Option T} {t : TDE} (h : OkE f t) : OkR f t := h.imp fun _ _ _ _ _ r => .inl r
theorem OkX.fe {f : Ev -> Option T} {t : TDE} (h : OkF f t) : OkE f t := h.imp fun _ _ _ _ _ r => r.1
theorem OkX.fr {f : Ev -> Option T} {t : TDE} (h : OkF f t) : OkR f t := h.fe.er
@[simp] noncomputable def zaI (i : Nat) : Ev -> Option T := fun ρ => match ρ[i]? with
 | some (some (.im t)) => some t
 | _ => none
@[simp] noncomputable def vrS (i : Nat) : Ev -> Option T := fun ρ => match ρ[i]? with
 | some (some (.im t)) => some t
 | some (some (.own (.lst ts))) => some (.lst ts)
 | _ => none
@[simp] noncomputable def cS (t : T) : Ev -> Option T := fun _ => some t
theorem zaj (i : Nat) : OkE (zaI i) (zjn i) := fun S Z δ ρ y Q hE e hq => by
 unfold zaI at e
 split at e
 ·rename_i t h
  cases e
  obtain ⟨d, h1, h2⟩ := hE.im i _ h
  unfold zjn; rw [h1]
  exact hq d S (.refl S) h2
 ·cases e
theorem zah (i : Nat) : OkR (vrS i) (zjn i) := fun S Z δ ρ y Q hE e hq => by
 unfold vrS at e
 split at e
 ·rename_i t h
  cases e
  obtain ⟨d, h1, h2⟩ := hE.im i _ h
  unfold zjn; rw [h1]
  exact hq d S (.refl S) (.inl h2)
 ·rename_i ts h
  cases e
  obtain ⟨p, o, h1, h2, h3, h4⟩ := hE.ow i _ h
  unfold zjn; rw [h1]
  cases o with
  | dct _ => exact h3.elim
  | lst ds => exact hq _ S (.refl S) (.inr ⟨ts, p, ds, rfl, rfl, h2, h3, h4⟩)
 ·cases e
theorem znx (i : Int) : OkF (cS (.int i)) (dC (.int i)) := fun S Z δ ρ y Q hE e hq => by cases e; exact hq _ S (.refl S) (Cl.of (fun _ => nofun) zda)
theorem zcq (i : Bool) : OkF (cS (.bl i)) (dC (.bl i)) := fun S Z δ ρ y Q hE e hq => by cases e; exact hq _ S (.refl S) (Cl.of (fun _ => nofun) zei)
theorem zcu (i : Str) : OkF (cS (.str i)) (dC (.str i)) := fun S Z δ ρ y Q hE e hq => by cases e; exact hq _ S (.refl S) (Cl.of (fun _ => nofun) zne)
theorem znw : OkF (cS .non) (dC .non) := fun S Z δ ρ y Q hE e hq => by cases e; exact hq _ S (.refl S) (Cl.of (fun _ => nofun) znf)
@[simp] noncomputable def opS (f : T -> T -> Option T) (fa fb : Ev -> Option T) : Ev -> Option T := fun ρ => (fa ρ).bind fun x => (fb ρ).bind fun y => f x y
def Good2 (R : Rk) (f : T -> T -> Option T) (g : RD2) : Prop := ∀ S Z x y z d e Q, (∀ a, Z a -> S a ≠ none) -> Vw S Z x d -> Vw S Z y e -> f x y = some z -> (∀ c S', Sx S S' -> R S S' Z z c -> Q c S') -> g d e S Q
theorem zao {R : Rk} [Cl R] {f : T -> T -> Option T} {g : RD2} {fa fb : Ev -> Option T} {ta tb : TDE} (hg : Good2 R f g) (ha : OkR fa ta) (hb : OkR fb tb) : OkX R (opS f fa fb) (dOp g ta tb) := fun S Z δ ρ y Q hE e hq => by
 unfold opS at e
 obtain ⟨x, e1, e⟩ := Option.bind_eq_some_iff.mp e
 obtain ⟨z, e2, e⟩ := Option.bind_eq_some_iff.mp e
 refine ha S Z δ ρ x _ hE e1 fun d S1 s1 r1 => ?_
 refine hb S1 Z δ ρ z _ (hE.grow s1) e2 fun d2 S2 s2 r2 => ?_
 exact hg S2 Z x z y d d2 Q ((hE.grow (s1.trans s2)).zd) (Vw.grow r1 s2) r2 e fun c S' s r => hq c S' ((s1.trans s2).trans s) (Cl.cl (s1.trans s2) r)
@[simp] noncomputable def i2 (g : Int -> Int -> T) : T -> T -> Option T
 | .int i, .int j => some (g i j)
 | _, _ => none
instance {i j : Int} : Decidable (ziZ i j) := by unfold ziZ; infer_instance
instance {i j : Int} : Decidable (zeq i j) := by unfold zeq; infer_instance
instance {i j : Int} : Decidable (znL i j) := by unfold znL; infer_instance
@[simp] noncomputable def i2c (C : Int -> Int -> Prop) [∀ i j, Decidable (C i j)] (g : Int -> Int -> T) : T -> T -> Option T
 | .int i, .int j => if C i j then some (g i j) else none
 | _, _ => none
theorem zf7 {g : Int -> Int -> T} {g' : Int -> Int -> D} (h : ∀ i j S, Sn S (g i j) (g' i j)) (n : ∀ i j ts, g i j ≠ .lst ts) : Good2 RkF (i2 g) (fI0 g') := fun S Z x y z d e Q hz hx hy ef hq => by
 unfold i2 at ef
 split at ef
 ·cases ef
  cases hx.int; cases hy.int
  exact hq _ S (.refl S) (Cl.of (n _ _) (h _ _ _))
 ·cases ef
theorem zfI {C : Int -> Int -> Prop} [∀ i j, Decidable (C i j)] {g : Int -> Int -> T} {g' : Int -> Int -> D} (h : ∀ i j S, Sn S (g i j) (g' i j)) (n : ∀ i j ts, g i j ≠ .lst ts) : Good2 RkF (i2c C g) (fI C g') := fun S Z x y z d e Q hz hx hy ef hq => by
 unfold i2c at ef
 split at ef
 ·split at ef
  ·rename_i hh
   cases ef
   cases hx.int; cases hy.int
   exact ⟨hh, hq _ S (.refl S) (Cl.of (n _ _) (h _ _ _))⟩
  ·cases ef
 ·cases ef
@[simp] noncomputable def zhs : T -> T -> Option T := i2 fun i j => .int (i - j)
@[simp] noncomputable def zcX : T -> T -> Option T := i2c (fun _ j => 0 < j) fun i j => .int (i % j)
@[simp] noncomputable def zbT : T -> T -> Option T := i2c zeq fun i j => .int (i / j)
@[simp] noncomputable def zpE : T -> T -> Option T := i2c znL fun i j => .int (i ^ j.toNat)
@[simp] noncomputable def zre : T -> T -> Option T := i2c (fun _ j => 0 <= j) fun i j => .int (i / 2 ^ j.toNat)
@[simp] noncomputable def zoU : T -> T -> Option T := i2 fun i j => .int (Builtin.bitAnd i j)
@[simp] noncomputable def leI : T -> T -> Option T := i2 fun i j => .bl (decide (i <= j))
@[simp] noncomputable def gtI : T -> T -> Option T := i2 fun i j => .bl (decide (j < i))
section
variable {fa fb : Ev -> Option T} {ta tb : TDE}
theorem zc4 (ha : OkR fa ta) (hb : OkR fb tb) : OkF (opS zhs fa fb) (dOp (fI0 fun i j => .int (i - j)) ta tb) := zao (zf7 (fun _ _ _ => zda) fun _ _ _ => nofun) ha hb
theorem za1 (ha : OkR fa ta) (hb : OkR fb tb) : OkF (opS zcX fa fb) (dOp (fI (fun _ j => 0 < j) fun i j => .int (i % j)) ta tb) := zao (zfI (fun _ _ _ => zda) fun _ _ _ => nofun) ha hb
theorem zbd (ha : OkR fa ta) (hb : OkR fb tb) : OkF (opS zbT fa fb) (dOp (fI zeq fun i j => .int (i / j)) ta tb) := zao (zfI (fun _ _ _ => zda) fun _ _ _ => nofun) ha hb
theorem znu (ha : OkR fa ta) (hb : OkR fb tb) : OkF (opS zpE fa fb) (dOp (fI znL fun i j => .int (i ^ j.toNat)) ta tb) := zao (zfI (fun _ _ _ => zda) fun _ _ _ => nofun) ha hb
theorem zqf (ha : OkR fa ta) (hb : OkR fb tb) : OkF (opS zre fa fb) (dOp (fI (fun _ j => 0 <= j) fun i j => .int (i / 2 ^ j.toNat)) ta tb) := zao (zfI (fun _ _ _ => zda) fun _ _ _ => nofun) ha hb
theorem zot (ha : OkR fa ta) (hb : OkR fb tb) : OkF (opS zoU fa fb) (dOp (fI0 fun i j => .int (Builtin.bitAnd i j)) ta tb) := zao (zf7 (fun _ _ _ => zda) fun _ _ _ => nofun) ha hb
theorem zos (ha : OkR fa ta) (hb : OkR fb tb) : OkF (opS leI fa fb) (dOp fLe ta tb) := zao (zf7 (fun _ _ _ => zei) fun _ _ _ => nofun) ha hb
theorem zqi (ha : OkR fa ta) (hb : OkR fb tb) : OkF (opS gtI fa fb) (dOp fGt ta tb) := zao (zf7 (fun _ _ _ => zei) fun _ _ _ => nofun) ha hb
end
noncomputable def eqS (neg : Bool) : T -> T -> Option T := fun x y => if dep x <= 60 /\ dep y <= 60 then some (.bl (cond neg (!eqT x y) (eqT x y))) else none
noncomputable def inS (neg : Bool) : T -> T -> Option T := fun x y => match zhF y with
 | some ts => if dep x <= 60 /\ ze6 ts <= 60 then some (.bl (cond neg (!(ts.any fun t => eqT t x)) (ts.any fun t => eqT t x))) else none
 | none => none
theorem zb0 {neg : Bool} : Good2 RkF (eqS neg) (fEq neg) := fun S Z x y z d e Q hz hx hy ef hq => by
 unfold eqS at ef
 split at ef
 ·rename_i h
  cases ef
  exact ⟨x, y, hx.sn, hy.sn, h.1, h.2, hq _ S (.refl S) (Cl.of (fun _ => nofun) zei)⟩
 ·cases ef
theorem ziP {neg : Bool} : Good2 RkF (inS neg) (fIn neg) := fun S Z x y z d e Q hz hx hy ef hq => by
 unfold inS at ef
 split at ef
 ·rename_i ts ht
  split at ef
  ·rename_i h
   cases ef
   obtain ⟨ds, h1, h2⟩ := hy.seq ht
   exact ⟨x, ts, ds, hx.sn, h1, Sns.sx (zjk S Z) ts h2, h.1, h.2, hq _ S (.refl S) (Cl.of (fun _ => nofun) zei)⟩
  ·cases ef
 ·cases ef
@[simp] noncomputable def ixS : T -> T -> Option T := fun x y => match zhF x, y with
 | some ts, .int i => L2.atI ts i
 | _, _ => none
theorem zar : Good2 RkV ixS fIx := fun S Z x y z d e Q hz hx hy ef hq => by
 unfold ixS at ef
 split at ef
 ·rename_i ts i ht
  cases hy.int
  obtain ⟨ds, h1, h2⟩ := hx.seq ht
  obtain ⟨c, h3, h4⟩ := h2.at ef
  unfold za7 at h1
  split at h1
  ·cases h1; exact zoI h3 (hq c S (.refl S) h4)
  ·cases h1; exact zoJ h3 (hq c S (.refl S) h4)
  ·split at h1
   ·rename_i q
    cases h1
    exact zoK q h3 (hq c S (.refl S) h4)
   ·cases h1
  ·cases h1
 ·cases ef
@[simp] noncomputable def zc8 : T -> T -> Option T
 | .int i, .int j => some (.int (i + j))
 | .str i, .str j => if i.length + j.length <= sizeLine then some (.str (i ++ j)) else none
 | .lst ts, .lst us => if ts.length + us.length <= sizeLine then some (.lst (ts ++ us)) else none
 | .tup ts, .tup us => if ts.length + us.length <= sizeLine then some (.tup (ts ++ us)) else none
 | _, _ => none
def zfD : RD2 := fun x y S Q => match x, y with
 | .int i, .int j => Q (.int (i + j)) S
 | .str i, .str j => i.length + j.length <= sizeLine /\ Q (.str (i ++ j)) S
 | .tup ds, .tup es => ds.length + es.length <= sizeLine /\ Q (.tup (ds ++ es)) S
 | .non, _ => False
 | .bl _, _ => False
 | .int _, _ => False
 | .str _, _ => False
 | .tup _, _ => False
 | x, y => match za7 x S, za7 y S with
  | some ds, some es => (∀ ts, y ≠ .tup ts) /\ ds.length + es.length <= sizeLine /\ ∀ r, S r = none -> Q (.ref r) (ups S r (.lst (ds ++ es)))
  | _, _ => False
theorem good_add : Good2 RkF zc8 zfD := fun S Z x y z d e Q hz hx hy ef hq => by
 unfold zc8 at ef
 split at ef
 ·cases ef; cases hx.int; cases hy.int
  exact hq _ S (.refl S) (Cl.of (fun _ => nofun) zda)
 ·split at ef
  ·rename_i h
   cases ef; cases hx.str; cases hy.str
   exact ⟨h, hq _ S (.refl S) (Cl.of (fun _ => nofun) zne)⟩
  ·cases ef
 ·split at ef
  ·rename_i h
   cases ef
   obtain ⟨ds, h1, h2⟩ := hx.seq rfl
   obtain ⟨es, h3, h4⟩ := hy.seq rfl
   have nt : ∀ ts, e ≠ .tup ts := by
    obtain ⟨_, q | ⟨_, q, _⟩, _⟩ := hy.lst <;> subst q <;> exact fun _ => nofun
   have key : (∀ ts, e ≠ .tup ts) /\ ds.length + es.length <= sizeLine /\ ∀ r, S r = none -> Q (.ref r) (ups S r (.lst (ds ++ es))) :=
    ⟨nt, by rw [h2.len, h4.len]; exact h, fun r hr => hq _ _ (.new hr _) (zdO hz hr (h2.append h4))⟩
   obtain ⟨_, q | ⟨a, q, _⟩, _⟩ := hx.lst
   ·subst q; unfold zfD; dsimp only; rw [h1, h3]; exact key
   ·subst q; unfold zfD; dsimp only; rw [h1, h3]; exact key
  ·cases ef
 ·split at ef
  ·rename_i h
   cases ef
   obtain ⟨ds, rfl, h2⟩ := hx.tup
   obtain ⟨es, rfl, h4⟩ := hy.tup
   exact ⟨by rw [h2.len, h4.len]; exact h, hq _ S (.refl S) (Cl.of (fun _ => nofun) (zfO (h2.append h4)))⟩
  ·cases ef
 ·cases ef
def OkT (f : Ev -> Option Bool) (t : TDT) : Prop := ∀ S Z δ ρ y Q, ER S Z δ ρ -> f ρ = some y -> (∀ S', Sx S S' -> Q y S') -> t δ S Q
@[simp] noncomputable def zfx (f : Ev -> Option T) : Ev -> Option Bool := fun ρ => (f ρ).bind fun x => match x with
 | .bl b => some b
 | _ => none
@[simp] noncomputable def zrX : T -> Option Bool
 | .non => some false
 | .bl b => some b
 | .int i => some (i != 0)
 | .str x => if x.length <= sizeLine then some ((x.length : Int) != 0) else none
 | .tup ts => some (!ts.isEmpty)
 | .lst ts => some (!ts.isEmpty)
 | .dic => none
@[simp] noncomputable def ze5 (f : Ev -> Option T) : Ev -> Option Bool := fun ρ => (f ρ).bind zrX
@[simp] noncomputable def zlB (f g : Ev -> Option Bool) : Ev -> Option Bool := fun ρ => (f ρ).bind fun b => if b = true then g ρ else some false
@[simp] noncomputable def zic (f g : Ev -> Option Bool) : Ev -> Option Bool := fun ρ => (f ρ).bind fun b => if b = true then some true else g ρ
@[simp] noncomputable def zbU (f : Ev -> Option Bool) : Ev -> Option Bool := fun ρ => (f ρ).map (!·)
section
variable {f g : Ev -> Option T} {t u : TDE} {fb gb : Ev -> Option Bool} {tb ub : TDT} {R : Rk}
theorem zbO (h : OkR f t) : OkT (zfx f) (zfE t) := fun S Z δ ρ y Q hE e hq => by
 obtain ⟨x, e1, e2⟩ := Option.bind_eq_some_iff.mp e
 refine h S Z δ ρ x _ hE e1 fun d S1 s1 r1 => ?_
 split at e2
 ·cases e2
  cases Vw.bl r1
  exact hq S1 s1
 ·cases e2
theorem zbq (h : OkR f t) : OkT (ze5 f) (zsd t) := fun S Z δ ρ y Q hE e hq => by
 obtain ⟨x, e1, e2⟩ := Option.bind_eq_some_iff.mp e
 refine h S Z δ ρ x _ hE e1 fun d S1 s1 r1 => ?_
 cases x with
 | non => cases Vw.non r1; cases e2; exact hq S1 s1
 | bl b => cases Vw.bl r1; cases e2; exact hq S1 s1
 | int b => cases Vw.int r1; cases e2; exact hq S1 s1
 | str b =>
  cases Vw.str r1
  simp only [zrX] at e2
  split at e2
  ·rename_i hh
   cases e2; exact ⟨hh, hq S1 s1⟩
  ·cases e2
 | tup ts =>
  obtain ⟨ds, rfl, h2⟩ := Vw.tup r1
  cases e2
  show Q (!ds.isEmpty) S1
  rw [h2.empty]; exact hq S1 s1
 | lst ts =>
  obtain ⟨ds, rfl | ⟨a, rfl, h1⟩, h2⟩ := Vw.lst r1
  ·cases e2
   show Q (!ds.isEmpty) S1
   rw [h2.empty]; exact hq S1 s1
  ·cases e2
   refine znO h1 ?_
   rw [h2.empty]; exact hq S1 s1
 | dic => cases e2
theorem zk5 (h : OkT fb tb) (h' : OkT gb ub) : OkT (zlB fb gb) (zqI tb ub) := fun S Z δ ρ y Q hE e hq => by
 obtain ⟨b, e1, e2⟩ := Option.bind_eq_some_iff.mp e
 refine h S Z δ ρ b _ hE e1 fun S1 s1 => ?_
 split at e2
 ·rename_i hb; rw [if_pos hb]
  exact h' S1 Z δ ρ y _ (hE.grow s1) e2 fun S2 s2 => hq S2 (s1.trans s2)
 ·rename_i hb; rw [if_neg hb]; cases e2; exact hq S1 s1
theorem zcv (h : OkT fb tb) (h' : OkT gb ub) : OkT (zic fb gb) (eOr tb ub) := fun S Z δ ρ y Q hE e hq => by
 obtain ⟨b, e1, e2⟩ := Option.bind_eq_some_iff.mp e
 refine h S Z δ ρ b _ hE e1 fun S1 s1 => ?_
 split at e2
 ·rename_i hb; rw [if_pos hb]; cases e2; exact hq S1 s1
 ·rename_i hb; rw [if_neg hb]
  exact h' S1 Z δ ρ y _ (hE.grow s1) e2 fun S2 s2 => hq S2 (s1.trans s2)
theorem zaU (h : OkT fb tb) : OkT (zbU fb) (zqH tb) := fun S Z δ ρ y Q hE e hq => by
 unfold zbU at e
 obtain ⟨b, e1, rfl⟩ := Option.map_eq_some_iff.mp e
 exact h S Z δ ρ b _ hE e1 fun S1 s1 => hq S1 s1
@[simp] noncomputable def zgr (f g : Ev -> Option T) : Ev -> Option T := fun ρ => (f ρ).bind fun x => match x with
 | .bl k => if k = true then g ρ else some (.bl false)
 | _ => none
@[simp] noncomputable def zrw (f : Ev -> Option T) : Ev -> Option T := fun ρ => (f ρ).bind fun x => match x with
 | .bl k => some (.bl (!k))
 | _ => none
theorem zcP [Cl R] (h : OkR f t) (h' : OkX R g u) : OkX R (zgr f g) (zqP t u) := fun S Z δ ρ y Q hE e hq => by
 obtain ⟨x, e1, e2⟩ := Option.bind_eq_some_iff.mp e
 refine h S Z δ ρ x _ hE e1 fun d S1 s1 r1 => ?_
 split at e2
 ·cases Vw.bl r1
  split at e2
  ·rename_i hb
   dsimp only; rw [if_pos hb]
   exact h' S1 Z δ ρ y _ (hE.grow s1) e2 fun d S2 s2 r2 => hq d S2 (s1.trans s2) (Cl.cl s1 r2)
  ·rename_i hb
   dsimp only; rw [if_neg hb]
   cases e2
   exact hq _ S1 s1 (Cl.of (fun _ => nofun) zei)
 ·cases e2
theorem znv [Cl R] (h : OkR f t) : OkX R (zrw f) (zqK t) := fun S Z δ ρ y Q hE e hq => by
 obtain ⟨x, e1, e2⟩ := Option.bind_eq_some_iff.mp e
 refine h S Z δ ρ x _ hE e1 fun d S1 s1 r1 => ?_
 split at e2
 ·cases Vw.bl r1
  cases e2
  exact hq _ S1 s1 (Cl.of (fun _ => nofun) zei)
 ·cases e2
end
noncomputable def Vws (S : SS) (Z : Addr -> Prop) : List T -> List D -> Prop
 | [], ds => ds = []
 | t :: ts, ds => ∃ c cs, ds = c :: cs /\ Vw S Z t c /\ Vws S Z ts cs
def OkA (f : Ev -> Option (List T)) (t : TDA) : Prop := ∀ S Z δ ρ ys Q, ER S Z δ ρ -> f ρ = some ys -> (∀ ds S', Sx S S' -> Vws S' Z ys ds -> Q ds S') -> t δ S Q
def zo9 (f : Ev -> Option (List T)) (t : TDA) : Prop := ∀ S Z δ ρ ys Q, ER S Z δ ρ -> f ρ = some ys -> (∀ ds S', Sx S S' -> Sns (hid S' Z) ys ds -> Q ds S') -> t δ S Q
@[simp] noncomputable def zaq : Ev -> Option (List T) := fun _ => some []
@[simp] noncomputable def zac (f : Ev -> Option T) (g : Ev -> Option (List T)) : Ev -> Option (List T) := fun ρ => (f ρ).bind fun x => (g ρ).bind fun xs => some (x :: xs)
section
variable {f : Ev -> Option T} {g : Ev -> Option (List T)} {t : TDE} {u : TDA}
theorem zas : OkA zaq zrJ := fun S Z δ ρ y Q hE e hq => by cases e; exact hq [] S (.refl S) rfl
theorem zae : zo9 zaq zrJ := fun S Z δ ρ y Q hE e hq => by cases e; exact hq [] S (.refl S) .nil
theorem zal (h : OkR f t) (h' : OkA g u) : OkA (zac f g) (zj6 t u) := fun S Z δ ρ y Q hE e hq => by
 obtain ⟨x, e1, e0⟩ := Option.bind_eq_some_iff.mp e
 obtain ⟨xs, e2, e3⟩ := Option.bind_eq_some_iff.mp e0
 cases e3
 refine h S Z δ ρ x _ hE e1 fun d S1 s1 r1 => ?_
 refine h' S1 Z δ ρ xs _ (hE.grow s1) e2 fun ds S2 s2 r2 => ?_
 exact hq _ S2 (s1.trans s2) ⟨d, ds, rfl, Vw.grow r1 s2, r2⟩
theorem zaa (h : OkE f t) (h' : zo9 g u) : zo9 (zac f g) (zj6 t u) := fun S Z δ ρ y Q hE e hq => by
 obtain ⟨x, e1, e0⟩ := Option.bind_eq_some_iff.mp e
 obtain ⟨xs, e2, e3⟩ := Option.bind_eq_some_iff.mp e0
 cases e3
 refine h S Z δ ρ x _ hE e1 fun d S1 s1 r1 => ?_
 refine h' S1 Z δ ρ xs _ (hE.grow s1) e2 fun ds S2 s2 r2 => ?_
 exact hq _ S2 (s1.trans s2) (.cons (Sn.sx (zbY s2) x r1) r2)
@[simp] noncomputable def tupS (g : Ev -> Option (List T)) : Ev -> Option T := fun ρ => (g ρ).bind fun xs => if xs.length <= sizeLine then some (.tup xs) else none
@[simp] noncomputable def zdE (g : Ev -> Option (List T)) : Ev -> Option T := fun ρ => (g ρ).bind fun xs => if xs.length <= sizeLine then some (.lst xs) else none
theorem zay (h : zo9 g u) : OkF (tupS g) (zse u) := fun S Z δ ρ y Q hE e hq => by
 obtain ⟨xs, e1, e2⟩ := Option.bind_eq_some_iff.mp e
 split at e2
 ·rename_i hl
  cases e2
  refine h S Z δ ρ xs _ hE e1 fun ds S1 s1 r1 => ⟨by rw [r1.len]; exact hl, hq _ S1 s1 (Cl.of (fun _ => nofun) (zfO r1))⟩
 ·cases e2
theorem zbA (h : zo9 g u) : OkF (zdE g) (zsi u) := fun S Z δ ρ y Q hE e hq => by
 obtain ⟨xs, e1, e2⟩ := Option.bind_eq_some_iff.mp e
 split at e2
 ·rename_i hl
  cases e2
  refine h S Z δ ρ xs _ hE e1 fun ds S1 s1 r1 => ⟨by rw [r1.len]; exact hl, fun p hp => hq _ _ (s1.trans (.new hp _)) (Cl.cl s1 (zdO (hE.grow s1).zd hp r1))⟩
 ·cases e2
end
@[simp] noncomputable def cbS (F : List T -> Option T) (g : Ev -> Option (List T)) : Ev -> Option T := fun ρ => (g ρ).bind F
def zhn (R : Rk) (F : List T -> Option T) (f : RDn) : Prop := ∀ S Z ys z ds Q, (∀ a, Z a -> S a ≠ none) -> Vws S Z ys ds -> F ys = some z -> (∀ c S', Sx S S' -> R S S' Z z c -> Q c S') -> f ds S Q
theorem za9 {R : Rk} [Cl R] {F : List T -> Option T} {f : RDn} {g : Ev -> Option (List T)} {u : TDA} (hf : zhn R F f) (h : OkA g u) : OkX R (cbS F g) (dCB f u) := fun S Z δ ρ y Q hE e hq => by
 obtain ⟨xs, e1, e2⟩ := Option.bind_eq_some_iff.mp e
 refine h S Z δ ρ xs _ hE e1 fun ds S1 s1 r1 => ?_
 exact hf S1 Z xs y ds Q (hE.grow s1).zd r1 e2 fun c S' s r => hq c S' (s1.trans s) (Cl.cl s1 r)
@[simp] noncomputable def zdK : List T -> Option T
 | [.str z] => if z.length <= sizeLine then some (.int z.length) else none
 | [y] => (zhF y).map fun ts => .int ts.length
 | _ => none
theorem zl1 {S : SS} {Z : Addr -> Prop} {y : T} {ds : List D} (h : Vws S Z [y] ds) : ∃ d, ds = [d] /\ Vw S Z y d := by
 obtain ⟨c, cs, rfl, h1, h2⟩ := h
 cases h2
 exact ⟨c, rfl, h1⟩
theorem zrU {S : SS} {Z : Addr -> Prop} {y z : T} {ds : List D} (h : Vws S Z [y, z] ds) : ∃ d e, ds = [d, e] /\ Vw S Z y d /\ Vw S Z z e := by
 obtain ⟨c, cs, rfl, h1, c2, cs2, rfl, h2, h3⟩ := h
 cases h3
 exact ⟨c, c2, rfl, h1, h2⟩
theorem zaJ : zhn RkF zdK zkk := fun S Z ys z ds Q hz hv e hq => by
 unfold zdK at e
 split at e
 ·obtain ⟨d, rfl, h1⟩ := zl1 hv
  split at e
  ·rename_i hl
   cases e
   cases h1.str
   exact ⟨hl, hq _ S (.refl S) (Cl.of (fun _ => nofun) zda)⟩
  ·cases e
 ·obtain ⟨d, rfl, h1⟩ := zl1 hv
  obtain ⟨ts, e1, rfl⟩ := Option.map_eq_some_iff.mp e
  obtain ⟨es, h2, h3⟩ := h1.seq e1
  refine zmO h2 ?_
  rw [h3.len]
  exact hq _ S (.refl S) (Cl.of (fun _ => nofun) zda)
 ·cases e
@[simp] noncomputable def listS : List T -> Option T
 | [y] => (zhF y).map .lst
 | _ => none
theorem zeZ : zhn RkF listS zfC := fun S Z ys z ds Q hz hv e hq => by
 unfold listS at e
 split at e
 ·obtain ⟨d, rfl, h1⟩ := zl1 hv
  obtain ⟨ts, e1, rfl⟩ := Option.map_eq_some_iff.mp e
  obtain ⟨es, h2, h3⟩ := h1.seq e1
  exact zlz h2 fun p hp => hq _ _ (.new hp _) (zdO hz hp h3)
 ·cases e
@[simp] noncomputable def zfn : List T -> Option T
 | [y] => (zhF y).map .tup
 | _ => none
theorem zcF : zhn RkF zfn zdG := fun S Z ys z ds Q hz hv e hq => by
 unfold zfn at e
 split at e
 ·rename_i y
  obtain ⟨d, rfl, h1⟩ := zl1 hv
  obtain ⟨ts, e1, rfl⟩ := Option.map_eq_some_iff.mp e
  obtain ⟨es, h2, h3⟩ := h1.seq e1
  have k : Q (.tup es) S := hq _ S (.refl S) (Cl.of (fun _ => nofun) (zfO h3))
  unfold za7 at h2
  split at h2
  ·cases h2; exact k
  ·cases h2; exact k
  ·split at h2
   ·rename_i q
    cases h2; exact zj2 q k
   ·cases h2
  ·cases h2
 ·cases e
noncomputable def zoS : List T -> Option (List Bool)
 | [] => some []
 | .bl b :: ts => (zoS ts).map (b :: ·)
 | _ :: _ => none
theorem zik : ∀ {ts : List T} {bs : List Bool}, zoS ts = some bs -> ts = bs.map T.bl
 | [], bs, h => by cases h; rfl
 | .bl b :: ts, bs, h => by
  unfold zoS at h
  obtain ⟨cs, h1, rfl⟩ := Option.map_eq_some_iff.mp h
  rw [List.map_cons, <- zik h1]
 | .non :: ts, bs, h => by cases h
 | .int _ :: ts, bs, h => by cases h
 | .str _ :: ts, bs, h => by cases h
 | .tup _ :: ts, bs, h => by cases h
 | .lst _ :: ts, bs, h => by cases h
theorem zmX (bs : List Bool) : zoS (bs.map T.bl) = some bs := by
 induction bs with
 | nil => rfl
 | cons b bs ih => rw [List.map_cons]; unfold zoS; rw [ih]; rfl
@[simp] noncomputable def bsS (g : List Bool -> Bool) : List T -> Option T
 | [.lst ts] => (zoS ts).map fun bs => .bl (g bs)
 | _ => none
def zl3 (g : List Bool -> Bool) : RDn := fun ds S Q => match ds with
 | [.tup _] => False
 | [d] => ∃ bs : List Bool, za7 d S = some (bs.map D.bl) /\ Q (.bl (g bs)) S
 | _ => False
theorem zds {g : List Bool -> Bool} : zhn RkF (bsS g) (zl3 g) := fun S Z ys z ds Q hz hv e hq => by
 unfold bsS at e
 split at e
 ·obtain ⟨d, rfl, h1⟩ := zl1 hv
  obtain ⟨bs, e1, rfl⟩ := Option.map_eq_some_iff.mp e
  cases zik e1
  obtain ⟨es, h2, h3⟩ := h1.seq rfl
  cases h3.bls
  have key : ∃ bs : List Bool, za7 d S = some (bs.map D.bl) /\ Q (.bl (g bs)) S := ⟨bs, h2, hq _ S (.refl S) (Cl.of (fun _ => nofun) zei)⟩
  obtain ⟨_, q | ⟨a, q, _⟩, _⟩ := h1.lst
  ·subst q; exact key
  ·subst q; exact key
 ·cases e
end L5
namespace L5
open PySem L2 L3
structure FR (S0 : SS) (Z0 : Addr -> Prop) (S : SS) (Z : Addr -> Prop) (δ : StD) (ρ : Ev) : Prop where
 er : ER S Z δ ρ
 len : δ.length = ρ.length
 sx : Sx S0 S
 z0 : ∀ a, Z0 a -> S0 a ≠ none
 zz : ∀ a, Z0 a -> Z a
 zn : ∀ a, Z a -> Z0 a \/ S0 a = none
 fr : ∀ (i : Nat) ts p, ρ[i]? = some (some (.own ts)) -> δ[i]? = some (some (.ref p)) -> S0 p = none
 dj : ∀ (i j : Nat) ts us p, i ≠ j -> ρ[i]? = some (some (.own ts)) -> ρ[j]? = some (some (.own us)) -> δ[i]? = some (some (.ref p)) -> δ[j]? = some (some (.ref p)) -> False
theorem zaP {α : Type} {l : List α} {i j : Nat} {a b : α} (h : (l.set i a)[j]? = some b) : (i = j /\ i < l.length /\ b = a) \/ (i ≠ j /\ l[j]? = some b) := by
 rw [List.getElem?_set] at h
 by_cases e : i = j
 ·subst e
  rw [if_pos rfl] at h
  by_cases hl : i < l.length
  ·rw [if_pos hl] at h; cases h; exact .inl ⟨rfl, hl, rfl⟩
  ·rw [if_neg hl] at h; cases h
 ·rw [if_neg e] at h; exact .inr ⟨e, h⟩
theorem zaX {α : Type} {l : List α} {i j : Nat} {a : α} (h : i ≠ j) : (l.set i a)[j]? = l[j]? := by rw [List.getElem?_set, if_neg h]
theorem zcG {α : Type} {l : List α} {i : Nat} {a : α} (h : i < l.length) : (l.set i a)[i]? = some a := by rw [List.getElem?_set, if_pos rfl, if_pos h]
section
variable {S0 S S' : SS} {Z0 Z : Addr -> Prop} {δ : StD} {ρ : Ev} {y : T} {d : D}
theorem FR.grow (h : FR S0 Z0 S Z δ ρ) (s : Sx S S') : FR S0 Z0 S' Z δ ρ := ⟨h.er.grow s, h.len, h.sx.trans s, h.z0, h.zz, h.zn, h.fr, h.dj⟩
theorem FR.zgi (h : FR S0 Z0 S Z δ ρ) (i : Nat) (r : Sn (hid S Z) y d) : FR S0 Z0 S Z (δ.set i (some d)) (ρ.set i (some (.im y))) := by
 refine ⟨⟨h.er.zd, fun j t e => ?_, fun j ts e => ?_⟩, by simp [h.len], h.sx, h.z0, h.zz, h.zn, fun j ts p e e' => ?_, fun j k ts us p n e1 e2 e3 e4 => ?_⟩
 ·rcases zaP e with ⟨rfl, hl, e⟩ | ⟨n, e⟩
  ·cases e; exact ⟨d, zcG (by rw [h.len]; exact hl), r⟩
  ·rw [zaX n]; exact h.er.im j t e
 ·rcases zaP e with ⟨rfl, hl, e⟩ | ⟨n, e⟩
  ·cases e
  ·rw [zaX n]; exact h.er.ow j ts e
 ·rcases zaP e with ⟨rfl, hl, e⟩ | ⟨n, e⟩
  ·cases e
  ·rw [zaX n] at e'; exact h.fr j ts p e e'
 ·rcases zaP e1 with ⟨rfl, hl, e⟩ | ⟨n1, e1⟩
  ·cases e
  rcases zaP e2 with ⟨rfl, hl, e⟩ | ⟨n2, e2⟩
  ·cases e
  rw [zaX n1] at e3; rw [zaX n2] at e4
  exact h.dj j k ts us p n e1 e2 e3 e4
theorem FR.zpn {ts : C} {ds : O} {p : Addr} (h : FR S0 Z0 S Z δ ρ) (s : Sx S S') (i : Nat) (hp : S p = none) (hd : S' p = some ds) (r : zl5 (hid S' fun a => Z a \/ a = p) ts ds) :
  FR S0 Z0 S' (fun a => Z a \/ a = p) (δ.set i (some (.ref p))) (ρ.set i (some (.own ts))) := by
 have np : ∀ (j : Nat) us q, ρ[j]? = some (some (.own us)) -> δ[j]? = some (some (.ref q)) -> q ≠ p := fun j us q e e' z => by
  subst z
  obtain ⟨p', ds', h1, h2, _⟩ := h.er.ow j us e
  rw [e'] at h1; cases h1; rw [hp] at h2; cases h2
 refine ⟨⟨fun a z => ?_, fun j t e => ?_, fun j us e => ?_⟩, by simp [h.len], h.sx.trans s, h.z0, fun a z => .inl (h.zz a z), fun a z => z.elim (h.zn a) (fun q => .inr (by subst q; exact h.sx.none hp)), fun j us q e e' => ?_, fun j k us vs q n e1 e2 e3 e4 => ?_⟩
 ·rcases z with z | rfl
  ·exact fun q => h.er.zd a z (s.none q)
  ·rw [hd]; nofun
 ·rcases zaP e with ⟨rfl, hl, e⟩ | ⟨n, e⟩
  ·cases e
  ·rw [zaX n]
   obtain ⟨d, h1, h2⟩ := h.er.im j t e
   exact ⟨d, h1, Sn.sx (zfi s hp) t h2⟩
 ·rcases zaP e with ⟨rfl, hl, e⟩ | ⟨n, e⟩
  ·cases e; exact ⟨p, ds, zcG (by rw [h.len]; exact hl), hd, r, .inr rfl⟩
  ·rw [zaX n]
   obtain ⟨q, es, h1, h2, h3, h4⟩ := h.er.ow j us e
   exact ⟨q, es, h1, s _ _ h2, zl5.sx (zfi s hp) h3, .inl h4⟩
 ·rcases zaP e with ⟨rfl, hl, e⟩ | ⟨n, e⟩
  ·rw [zcG (by rw [h.len]; exact hl)] at e'; cases e'; exact h.sx.none hp
  ·rw [zaX n] at e'; exact h.fr j us q e e'
 ·rcases zaP e1 with ⟨rfl, hl, e⟩ | ⟨n1, e1⟩
  ·rcases zaP e2 with ⟨rfl, _, _⟩ | ⟨n2, e2⟩
   ·exact n rfl
   ·rw [zcG (by rw [h.len]; exact hl)] at e3; cases e3
    rw [zaX n2] at e4
    exact np k vs p e2 e4 rfl
  ·rcases zaP e2 with ⟨rfl, hl, _⟩ | ⟨n2, e2⟩
   ·rw [zcG (by rw [h.len]; exact hl)] at e4; cases e4
    rw [zaX n1] at e3
    exact np j us p e1 e3 rfl
   ·rw [zaX n1] at e3; rw [zaX n2] at e4
    exact h.dj j k us vs q n e1 e2 e3 e4
theorem FR.forget (h : FR S0 Z0 S Z δ ρ) (i : Nat) : FR S0 Z0 S Z δ (ρ.set i none) := by
 refine ⟨⟨h.er.zd, fun j t e => ?_, fun j ts e => ?_⟩, by simp [h.len], h.sx, h.z0, h.zz, h.zn, fun j ts p e e' => ?_, fun j k ts us p n e1 e2 e3 e4 => ?_⟩
 ·rcases zaP e with ⟨rfl, hl, e⟩ | ⟨n, e⟩
  ·cases e
  ·exact h.er.im j t e
 ·rcases zaP e with ⟨rfl, hl, e⟩ | ⟨n, e⟩
  ·cases e
  ·exact h.er.ow j ts e
 ·rcases zaP e with ⟨rfl, hl, e⟩ | ⟨n, e⟩
  ·cases e
  ·exact h.fr j ts p e e'
 ·rcases zaP e1 with ⟨rfl, hl, e⟩ | ⟨n1, e1⟩
  ·cases e
  rcases zaP e2 with ⟨rfl, hl, e⟩ | ⟨n2, e2⟩
  ·cases e
  exact h.dj j k ts us p n e1 e2 e3 e4
@[simp] noncomputable def frg (is : List Nat) (ρ : Ev) : Ev := is.foldl (fun ρ i => ρ.set i none) ρ
theorem FR.frg : ∀ (is : List Nat) {ρ : Ev}, FR S0 Z0 S Z δ ρ -> FR S0 Z0 S Z δ (frg is ρ)
 | [], _, h => h
 | i :: is, _, h => FR.frg is (h.forget i)
theorem FR.freeze {ts : List T} {p : Addr} (h : FR S0 Z0 S Z δ ρ) (i : Nat) (e : ρ[i]? = some (some (.own (.lst ts)))) (ed : δ[i]? = some (some (.ref p))) :
  FR S0 Z0 S (fun a => Z a /\ a ≠ p) δ (ρ.set i (some (.im (.lst ts)))) /\ Sn (hid S fun a => Z a /\ a ≠ p) (.lst ts) (.ref p) := by
 obtain ⟨p', o, h1, h2, h3, h4⟩ := h.er.ow i _ e
 rw [ed] at h1; cases h1
 obtain ⟨ds, rfl⟩ : ∃ ds, o = .lst ds := by
  cases o with
  | lst ds => exact ⟨ds, rfl⟩
  | dct _ => exact h3.elim
 replace h3 : Sns (hid S Z) ts ds := h3
 have hS : Sn (hid S fun a => Z a /\ a ≠ p) (.lst ts) (.ref p) := by
  simp only [Sn]
  exact ⟨ds, .inr ⟨p, rfl, by rw [zdF (fun z => z.2 rfl)]; exact h2⟩, Sns.sx (zf6 fun a z => z.1) ts h3⟩
 refine ⟨?_, hS⟩
 refine ⟨⟨fun a z => h.er.zd a z.1, fun j t e' => ?_, fun j us e' => ?_⟩, by simp [h.len], h.sx, h.z0, fun a z => ⟨h.zz a z, fun q => ?_⟩, fun a z => h.zn a z.1, fun j us q e' ed' => ?_, fun j k us vs q n e1 e2 e3 e4 => ?_⟩
 ·rcases zaP e' with ⟨rfl, hl, e'⟩ | ⟨n, e'⟩
  ·cases e'; exact ⟨_, ed, hS⟩
  ·obtain ⟨d, g1, g2⟩ := h.er.im j t e'
   exact ⟨d, g1, Sn.sx (zf6 fun a z => z.1) t g2⟩
 ·rcases zaP e' with ⟨rfl, hl, e'⟩ | ⟨n, e'⟩
  ·cases e'
  ·obtain ⟨q, es, g1, g2, g3, g4⟩ := h.er.ow j us e'
   exact ⟨q, es, g1, g2, zl5.sx (zf6 fun a z => z.1) g3, g4, fun z => by subst z; exact h.dj i j _ us q n e e' ed g1⟩
 ·subst q; exact h.z0 a z (h.fr i _ a e ed)
 ·rcases zaP e' with ⟨rfl, hl, e'⟩ | ⟨n, e'⟩
  ·cases e'
  ·exact h.fr j us q e' ed'
 ·rcases zaP e1 with ⟨rfl, hl, e⟩ | ⟨n1, e1⟩
  ·cases e
  rcases zaP e2 with ⟨rfl, hl, e⟩ | ⟨n2, e2⟩
  ·cases e
  exact h.dj j k us vs q n e1 e2 e3 e4
theorem FR.mut {ts us : C} {es : O} {p : Addr} (h : FR S0 Z0 S Z δ ρ) (i : Nat) (e : ρ[i]? = some (some (.own ts))) (ed : δ[i]? = some (some (.ref p))) (r : zl5 (hid S Z) us es) :
  FR S0 Z0 (ups S p es) Z δ (ρ.set i (some (.own us))) := by
 obtain ⟨p', ds, h1, h2, h3, h4⟩ := h.er.ow i ts e
 rw [ed] at h1; cases h1
 have hh : hid (ups S p es) Z = hid S Z := zoD h4
 have hpn := h.fr i ts p e ed
 refine ⟨⟨fun a z => ?_, fun j t e' => ?_, fun j vs e' => ?_⟩, by simp [h.len], fun b o q => ?_, h.z0, h.zz, h.zn, fun j vs q e' ed' => ?_, fun j k vs ws q n e1 e2 e3 e4 => ?_⟩
 ·by_cases hp : a = p
  ·subst hp; rw [zc0]; nofun
  ·rw [zeu hp]; exact h.er.zd a z
 ·rw [hh]
  rcases zaP e' with ⟨rfl, hl, e'⟩ | ⟨n, e'⟩
  ·cases e'
  ·exact h.er.im j t e'
 ·rw [hh]
  rcases zaP e' with ⟨rfl, hl, e'⟩ | ⟨n, e'⟩
  ·cases e'; exact ⟨p, es, ed, zc0, r, h4⟩
  ·obtain ⟨q, es', g1, g2, g3, g4⟩ := h.er.ow j vs e'
   refine ⟨q, es', g1, ?_, g3, g4⟩
   rw [zeu (fun z => by subst z; exact h.dj i j ts vs q n e e' ed g1)]; exact g2
 ·rw [zeu (fun z => by subst z; rw [hpn] at q; cases q)]; exact h.sx b o q
 ·rcases zaP e' with ⟨rfl, hl, _⟩ | ⟨n, e'⟩
  ·rw [ed] at ed'; cases ed'; exact hpn
  ·exact h.fr j vs q e' ed'
 ·rcases zaP e1 with ⟨rfl, hl, _⟩ | ⟨n1, e1⟩
  ·rcases zaP e2 with ⟨rfl, hl, _⟩ | ⟨n2, e2⟩
   ·exact n rfl
   ·exact h.dj _ k ts ws q n e e2 e3 e4
  ·rcases zaP e2 with ⟨rfl, hl, _⟩ | ⟨n2, e2⟩
   ·exact h.dj j _ vs ts q n e1 e e3 e4
   ·exact h.dj j k vs ws q n e1 e2 e3 e4
noncomputable def reb (S0 S : SS) (Z : Addr -> Prop) : SS := open Classical in fun a => if S0 a = none /\ Z a then none else S a
theorem zi7 {a : Addr} (h : ¬ (S0 a = none /\ Z a)) : reb S0 S Z a = S a := if_neg h
theorem zkM {a : Addr} (h : S0 a = none /\ Z a) : reb S0 S Z a = none := if_pos h
theorem FR.rebase (h : FR S0 Z0 S Z δ ρ) : ∃ S1, Sx S0 S1 /\ FR S1 Z0 S Z δ ρ /\ Sx (hid S Z) S1 := by
 refine ⟨reb S0 S Z, fun b o q => ?_, ⟨h.er, h.len, fun b o q => ?_, fun a z => ?_, h.zz, fun a z => ?_, fun i ts p e ed => ?_, h.dj⟩, fun b o q => ?_⟩
 ·rw [zi7 (fun z => by rw [z.1] at q; cases q)]; exact h.sx _ _ q
 ·by_cases w : S0 b = none /\ Z b
  ·rw [zkM w] at q; cases q
  ·rw [zi7 w] at q; exact q
 ·rw [zi7 (fun q => h.z0 a z q.1)]
  exact h.er.zd a (h.zz a z)
 ·rcases h.zn a z with w | w
  ·exact .inl w
  ·exact .inr (zkM ⟨w, z⟩)
 ·obtain ⟨p', ds, h1, h2, h3, h4⟩ := h.er.ow i ts e
  rw [ed] at h1; cases h1
  exact zkM ⟨h.fr i ts p e ed, h4⟩
 ·obtain ⟨q1, q2⟩ := zci q
  rw [zi7 (fun z => q1 z.2)]; exact q2
theorem FR.back {S1 : SS} (h : FR S1 Z0 S Z δ ρ) (s : Sx S0 S1) (z0 : ∀ a, Z0 a -> S0 a ≠ none) : FR S0 Z0 S Z δ ρ := ⟨h.er, h.len, s.trans h.sx, z0, h.zz, fun a z => (h.zn a z).imp id s.none, fun i ts p e ed => s.none (h.fr i ts p e ed), h.dj⟩
theorem FR.see {S1 : SS} {Z1 : Addr -> Prop} (h : FR S0 Z0 S Z δ ρ) (b : Sx (hid S1 Z1) S0) (zz : ∀ a, Z0 a -> Z1 a) : Sx (hid S1 Z1) (hid S Z) := fun a o q => by
 have q0 := b _ _ q
 obtain ⟨q1, q2⟩ := zci q
 rw [zdF]
 ·exact h.sx _ _ q0
 ·intro z
  rcases h.zn a z with w | w
  ·exact q1 (zz a w)
  ·rw [w] at q0; cases q0
end
inductive Out where
 | nx (ρ : Ev) | rt (t : T) | bk (ρ : Ev) | ct (ρ : Ev)
abbrev Sm := Ev -> Option Out
def zsW (R : Rk) (S0 : SS) (Z0 : Addr -> Prop) (o : Out) (E : zki) : Prop := match o with
 | .nx ρ => ∀ S Z δ, FR S0 Z0 S Z δ ρ -> E.nx δ S
 | .bk ρ => ∀ S Z δ, FR S0 Z0 S Z δ ρ -> E.bk δ S
 | .ct ρ => ∀ S Z δ, FR S0 Z0 S Z δ ρ -> E.ct δ S
 | .rt y => ∀ d S, Sx S0 S -> R S0 S Z0 y d -> E.rt d S
def OkS (R : Rk) (g : Sm) (t : TDS) : Prop := ∀ S0 Z0 S Z δ ρ o E, FR S0 Z0 S Z δ ρ -> g ρ = some o -> zsW R S0 Z0 o E -> t E δ S
class Lo (R : Rk) : Prop extends Cl R where
 lo : ∀ {S0 S S' : SS} {Z0 Z : Addr -> Prop} {y : T} {d : D}, Sx S0 S -> (∀ a, Z0 a -> Z a) -> R S S' Z y d -> R S0 S' Z0 y d
instance : Lo RkV := ⟨fun _ z h => Sn.sx (zf6 z) _ h⟩
instance : Lo RkF := ⟨fun s z h => ⟨Sn.sx (zf6 z) _ h.1, fun ts e => by
 obtain ⟨p, ds, h1, h2, h3, h4⟩ := h.2 ts e
 exact ⟨p, ds, h1, s.none h2, h3, Sns.sx (zf6 fun a q => q.imp (z a) id) ts h4⟩⟩⟩
@[simp] noncomputable def zbn (g h : Sm) : Sm := fun ρ => (g ρ).bind fun o => match o with
 | .nx ρ' => h ρ'
 | o => some o
@[simp] noncomputable def zbG : Sm := fun ρ => some (.nx ρ)
@[simp] noncomputable def zdH (i : Nat) (f : Ev -> Option T) : Sm := fun ρ => (f ρ).map fun y => .nx (ρ.set i (some (.im y)))
@[simp] noncomputable def ziq (i : Nat) (f : Ev -> Option T) : Sm := fun ρ => (f ρ).bind fun y => match y with
 | .lst ts => some (.nx (ρ.set i (some (.own (.lst ts)))))
 | y => some (.nx (ρ.set i (some (.im y))))
@[simp] noncomputable def retS (f : Ev -> Option T) : Sm := fun ρ => (f ρ).map .rt
@[simp] noncomputable def zsX (i : Nat) : Sm := fun ρ => match ρ[i]? with
 | some (some (.own (.lst ts))) => some (.rt (.lst ts))
 | _ => none
@[simp] noncomputable def ifS (c : Ev -> Option Bool) (g h : Sm) : Sm := fun ρ => (c ρ).bind fun b => if b = true then g ρ else h ρ
@[simp] noncomputable def fzE (i : Nat) (ρ : Ev) : Ev := match ρ[i]? with
 | some (some (.own (.lst ts))) => ρ.set i (some (.im (.lst ts)))
 | _ => ρ
@[simp] noncomputable def fzS (i : Nat) (g : Sm) : Sm := fun ρ => g (fzE i ρ)
section
variable {R : Rk} {g h : Sm} {t u : TDS} {f : Ev -> Option T} {te : TDE}
theorem zan (hg : OkS R g t) (hh : OkS R h u) : OkS R (zbn g h) (zqJ t u) := fun S0 Z0 S Z δ ρ o E F e P => by
 obtain ⟨o1, e1, e2⟩ := Option.bind_eq_some_iff.mp e
 refine hg S0 Z0 S Z δ ρ o1 { E with nx := u E } F e1 ?_
 cases o1 with
 | nx ρ1 => exact fun S1 Z1 δ1 F1 => hh S0 Z0 S1 Z1 δ1 ρ1 o E F1 e2 P
 | rt y => cases e2; exact P
 | bk y => cases e2; exact P
 | ct y => cases e2; exact P
theorem zaC : OkS R zbG zqL := fun S0 Z0 S Z δ ρ o E F e P => by cases e; exact P S Z δ F
theorem zaR (i : Nat) (hf : OkE f te) : OkS R (zdH i f) (zlE te (hName i)) := fun S0 Z0 S Z δ ρ o E F e P => by
 obtain ⟨y, e1, rfl⟩ := Option.map_eq_some_iff.mp e
 exact hf S Z δ ρ y _ F.er e1 fun d S1 s1 r1 => P S1 Z _ ((F.grow s1).zgi i r1)
theorem zbD (i : Nat) (hf : OkF f te) : OkS R (ziq i f) (zlE te (hName i)) := fun S0 Z0 S Z δ ρ o E F e P => by
 obtain ⟨y, e1, e2⟩ := Option.bind_eq_some_iff.mp e
 refine hf S Z δ ρ y _ F.er e1 fun d S1 s1 r1 => ?_
 cases y with
 | lst ts =>
  cases e2
  obtain ⟨p, ds, rfl, h1, h2, h3⟩ := r1.2 ts rfl
  exact P S1 _ _ (F.zpn (ts := .lst ts) (ds := .lst ds) s1 i h1 h2 h3)
 | non => cases e2; exact P S1 Z _ ((F.grow s1).zgi i r1.1)
 | bl _ => cases e2; exact P S1 Z _ ((F.grow s1).zgi i r1.1)
 | int _ => cases e2; exact P S1 Z _ ((F.grow s1).zgi i r1.1)
 | str _ => cases e2; exact P S1 Z _ ((F.grow s1).zgi i r1.1)
 | tup _ => cases e2; exact P S1 Z _ ((F.grow s1).zgi i r1.1)
 | dic => cases e2; exact P S1 Z _ ((F.grow s1).zgi i r1.1)
theorem zaw [Lo R] (hf : OkX R f te) : OkS R (retS f) (zsg te) := fun S0 Z0 S Z δ ρ o E F e P => by
 obtain ⟨y, e1, rfl⟩ := Option.map_eq_some_iff.mp e
 exact hf S Z δ ρ y _ F.er e1 fun d S1 s1 r1 => P d S1 (F.sx.trans s1) (Lo.lo F.sx F.zz r1)
theorem zbm {c : Ev -> Option Bool} {tc : TDT} (hc : OkT c tc) (hg : OkS R g t) (hh : OkS R h u) : OkS R (ifS c g h) (zsj tc t u) := fun S0 Z0 S Z δ ρ o E F e P => by
 obtain ⟨b, e1, e2⟩ := Option.bind_eq_some_iff.mp e
 refine hc S Z δ ρ b _ F.er e1 fun S1 s1 => ?_
 split at e2
 ·rename_i hb; rw [if_pos hb]; exact hg S0 Z0 S1 Z δ ρ o E (F.grow s1) e2 P
 ·rename_i hb; rw [if_neg hb]; exact hh S0 Z0 S1 Z δ ρ o E (F.grow s1) e2 P
theorem FR.fz {S0 S : SS} {Z0 Z : Addr -> Prop} {δ : StD} {ρ : Ev} (F : FR S0 Z0 S Z δ ρ) (i : Nat) : ∃ Z', FR S0 Z0 S Z' δ (fzE i ρ) := by
 unfold fzE
 split
 ·rename_i ts h
  obtain ⟨p, ds, h1, _⟩ := F.er.ow i _ h
  exact ⟨_, (F.freeze i h h1).1⟩
 ·exact ⟨Z, F⟩
theorem zqd (i : Nat) (hg : OkS R g t) : OkS R (fzS i g) t := fun S0 Z0 S Z δ ρ o E F e P => by
 obtain ⟨Z', F'⟩ := F.fz i
 exact hg S0 Z0 S Z' δ _ o E F' e P
def OkG (g : T -> Ev -> Option Ev) (t : TDG) : Prop := ∀ S0 Z0 S Z δ ρ ρ' y d Q, FR S0 Z0 S Z δ ρ -> Sn (hid S Z) y d -> g y ρ = some ρ' -> (∀ δ', FR S0 Z0 S Z δ' ρ' -> Q δ' S) -> t d δ S Q
def zq3 (g : List T -> Ev -> Option Ev) (t : ziw) : Prop := ∀ S0 Z0 S Z δ ρ ρ' ys ds Q, FR S0 Z0 S Z δ ρ -> Sns (hid S Z) ys ds -> g ys ρ = some ρ' -> (∀ δ', FR S0 Z0 S Z δ' ρ' -> Q δ' S) -> t ds δ S Q
@[simp] noncomputable def nmG (i : Nat) : T -> Ev -> Option Ev := fun y ρ => some (ρ.set i (some (.im y)))
@[simp] noncomputable def zqo : List T -> Ev -> Option Ev
 | [], ρ => some ρ
 | _ :: _, _ => none
@[simp] noncomputable def zgo (g : T -> Ev -> Option Ev) (h : List T -> Ev -> Option Ev) : List T -> Ev -> Option Ev
 | y :: ys, ρ => (g y ρ).bind fun ρ' => h ys ρ'
 | [], _ => none
@[simp] noncomputable def tpG (n : Nat) (g : List T -> Ev -> Option Ev) : T -> Ev -> Option Ev
 | .tup ys, ρ => if ys.length = n then g ys ρ else none
 | _, _ => none
theorem zdD (i : Nat) : OkG (nmG i) (hName i) := fun S0 Z0 S Z δ ρ ρ' y d Q F r e hq => by cases e; exact hq _ (F.zgi i r)
theorem zmA : zq3 zqo zrB := fun S0 Z0 S Z δ ρ ρ' ys ds Q F r e hq => by
 cases ys with
 | nil => simp only [Sns] at r; subst r; cases e; exact ⟨rfl, hq _ F⟩
 | cons _ _ => cases e
theorem zeN {g : T -> Ev -> Option Ev} {h : List T -> Ev -> Option Ev} {t : TDG} {u : ziw} (hg : OkG g t) (hh : zq3 h u) : zq3 (zgo g h) (zoE t u) := fun S0 Z0 S Z δ ρ ρ' ys ds Q F r e hq => by
 cases ys with
 | nil => cases e
 | cons y ys =>
  simp only [Sns] at r
  obtain ⟨c, cs, rfl, r1, r2⟩ := r
  obtain ⟨ρ1, e1, e2⟩ := Option.bind_eq_some_iff.mp e
  exact hg S0 Z0 S Z δ ρ ρ1 y c _ F r1 e1 fun δ1 F1 => hh S0 Z0 S Z δ1 ρ1 ρ' ys cs Q F1 r2 e2 hq
theorem zqe {n : Nat} {g : List T -> Ev -> Option Ev} {t : ziw} (hg : zq3 g t) : OkG (tpG n g) (zqZ n t) := fun S0 Z0 S Z δ ρ ρ' y d Q F r e hq => by
 cases y with
 | tup ys =>
  simp only [Sn] at r
  obtain ⟨ds, rfl, r⟩ := r
  simp only [tpG] at e
  split at e
  ·rename_i hl
   exact ⟨by rw [r.len]; exact hl, hg S0 Z0 S Z δ ρ ρ' ys ds Q F r e hq⟩
  ·cases e
 | non => cases e
 | bl _ => cases e
 | int _ => cases e
 | str _ => cases e
 | lst _ => cases e
 | dic => cases e
@[simp] noncomputable def zrY (f : Ev -> Option T) (g : T -> Ev -> Option Ev) : Sm := fun ρ => (f ρ).bind fun y => (g y ρ).map .nx
theorem zoq {g : T -> Ev -> Option Ev} {tg : TDG} (hf : OkE f te) (hg : OkG g tg) : OkS R (zrY f g) (zlE te tg) := fun S0 Z0 S Z δ ρ o E F e P => by
 obtain ⟨y, e1, e2⟩ := Option.bind_eq_some_iff.mp e
 obtain ⟨ρ', e3, rfl⟩ := Option.map_eq_some_iff.mp e2
 exact hf S Z δ ρ y _ F.er e1 fun d S1 s1 r1 => hg S0 Z0 S1 Z δ ρ ρ' y d _ (F.grow s1) r1 e3 fun δ' F' => P S1 Z δ' F'
def OkI (free : Bool) (f : Ev -> Option (List T)) (ti : TDI) : Prop := ∀ S Z δ ρ ts Q, ER S Z δ ρ -> f ρ = some ts -> (∀ I S', Sx S S' -> Sns (hid S' Z) ts I.items -> (∀ S'', Sx (if free = true then hid S' Z else S') S'' -> I.keep S'') -> Q I S') -> ti δ S Q
@[simp] noncomputable def itS (f : Ev -> Option T) : Ev -> Option (List T) := fun ρ => (f ρ).bind zhF
theorem zcx {f : Ev -> Option T} {te : TDE} (hf : OkR f te) : OkI false (itS f) (zrz te) := fun S Z δ ρ ts Q hE e hq => by
 obtain ⟨y, e1, e2⟩ := Option.bind_eq_some_iff.mp e
 refine hf S Z δ ρ y _ hE e1 fun d S1 s1 r1 => ?_
 cases y with
 | tup us =>
  cases e2
  obtain ⟨ds, rfl, h2⟩ := Vw.tup r1
  exact hq _ S1 s1 h2 fun _ _ => trivial
 | lst us =>
  cases e2
  obtain ⟨ds, rfl | ⟨a, rfl, h1⟩, h2⟩ := Vw.lst r1
  ·exact hq _ S1 s1 h2 fun _ _ => trivial
  ·dsimp only; rw [h1]
   exact hq ⟨ds, _⟩ S1 s1 h2 fun S'' s => s _ _ h1
 | non => cases e2
 | bl _ => cases e2
 | int _ => cases e2
 | str _ => cases e2
 | dic => cases e2
theorem zk3 {f : Ev -> Option T} {te : TDE} (hf : OkE f te) : OkI true (itS f) (zrz te) := fun S Z δ ρ ts Q hE e hq => by
 obtain ⟨y, e1, e2⟩ := Option.bind_eq_some_iff.mp e
 refine hf S Z δ ρ y _ hE e1 fun d S1 s1 r1 => ?_
 cases y with
 | tup us =>
  cases e2
  obtain ⟨ds, rfl, h2⟩ := Vw.tup (.inl r1)
  exact hq _ S1 s1 h2 fun _ _ => trivial
 | lst us =>
  cases e2
  have r2 := r1
  unfold RkV at r2
  simp only [Sn] at r2
  obtain ⟨ds, rfl | ⟨a, rfl, h1⟩, h2⟩ := r2
  ·exact hq _ S1 s1 h2 fun _ _ => trivial
  ·dsimp only; rw [(zci h1).2]
   exact hq ⟨ds, _⟩ S1 s1 h2 fun S'' s => s _ _ h1
 | non => cases e2
 | bl _ => cases e2
 | int _ => cases e2
 | str _ => cases e2
 | dic => cases e2
noncomputable def rangeT (lo : Int) (n : Nat) : List T := (List.range n).map fun (k : Nat) => T.int (lo + (k : Int))
theorem zfN {S : SS} (lo : Int) (n : Nat) : Sns S (rangeT lo n) (zc2 lo n) := by
 unfold rangeT zc2
 induction List.range n with
 | nil => exact .nil
 | cons k l ih => exact .cons zda ih
noncomputable def inR (j : Int) : Bool := decide (-100000000 <= j) && decide (j <= 100000000)
theorem zhd {j : Int} : inR j = true ↔ -100000000 <= j /\ j <= 100000000 := by simp [inR]
theorem zjj {j : Int} (h : inR j = true) : -(2 ^ 62) <= j /\ j < 2 ^ 62 := by have := zhd.mp h; omega
noncomputable def zmi : List T -> Option (List T)
 | [.int j] => if inR j = true then some (rangeT 0 j.toNat) else none
 | _ => none
noncomputable def zjH : List T -> Option (List T)
 | [.int i, .int j] => if inR i = true /\ inR j = true then some (rangeT i (j - i).toNat) else none
 | _ => none
@[simp] noncomputable def itA (F : List T -> Option (List T)) (g : Ev -> Option (List T)) : Ev -> Option (List T) := fun ρ => (g ρ).bind F
theorem zd5 {b : Bool} {g : Ev -> Option (List T)} {tA : TDA} (h : OkA g tA) : OkI b (itA zmi g) (zoz tA) := fun S Z δ ρ ts Q hE e hq => by
 obtain ⟨ys, e1, e2⟩ := Option.bind_eq_some_iff.mp e
 refine h S Z δ ρ ys _ hE e1 fun ds S1 s1 r1 => ?_
 unfold zmi at e2
 split at e2
 ·split at e2
  ·rename_i hc
   cases e2
   obtain ⟨d, rfl, h1⟩ := zl1 r1
   cases h1.int
   exact ⟨zjj hc, hq _ S1 s1 (zfN _ _) fun _ _ => trivial⟩
  ·cases e2
 ·cases e2
theorem zgY {b : Bool} {g : Ev -> Option (List T)} {tA : TDA} (h : OkA g tA) : OkI b (itA zjH g) (zoy tA) := fun S Z δ ρ ts Q hE e hq => by
 obtain ⟨ys, e1, e2⟩ := Option.bind_eq_some_iff.mp e
 refine h S Z δ ρ ys _ hE e1 fun ds S1 s1 r1 => ?_
 unfold zjH at e2
 split at e2
 ·split at e2
  ·rename_i hc
   cases e2
   obtain ⟨d, d', rfl, h1, h2⟩ := zrU r1
   cases h1.int; cases h2.int
   exact ⟨⟨(zjj hc.1).1, (zjj hc.1).2, zjj hc.2⟩, hq _ S1 s1 (zfN _ _) fun _ _ => trivial⟩
  ·cases e2
 ·cases e2
noncomputable def zec (is : List Nat) (g : T -> Ev -> Option Ev) (b : Sm) : List T -> Ev -> Option Out
 | [], ρ => some (.nx (frg is ρ))
 | y :: ys, ρ => (g y (frg is ρ)).bind fun ρ1 => (b ρ1).bind fun o => match o with
  | .nx ρ2 => zec is g b ys ρ2
  | .ct ρ2 => zec is g b ys ρ2
  | .bk ρ2 => some (.nx (frg is ρ2))
  | .rt t => some (.rt t)
@[simp] noncomputable def zhg (is : List Nat) (f : Ev -> Option (List T)) (g : T -> Ev -> Option Ev) (b : Sm) : Sm := fun ρ => (f ρ).bind fun ts => zec is g b ts ρ
theorem zdS {is : List Nat} {fi : Ev -> Option (List T)} {ti : TDI} {g : T -> Ev -> Option Ev} {tg : TDG} {b : Sm} {tb : TDS} [Lo R] (hi : OkI true fi ti) (hg : OkG g tg) (hb : OkS R b tb) : OkS R (zhg is fi g b) (zqN ti tg tb) := fun S0 Z0 S Z δ ρ o E F e P => by
 obtain ⟨ts, e1, e2⟩ := Option.bind_eq_some_iff.mp e
 refine hi S Z δ ρ ts _ F.er e1 fun I S1 s1 r1 hk => ?_
 rw [if_pos rfl] at hk
 obtain ⟨SB, b1, FB, b2⟩ := (F.grow s1).rebase
 have lo : ∀ S' d y, R SB S' Z0 y d -> R S0 S' Z0 y d := fun S' d y r => Lo.lo b1 (fun _ z => z) r
 have zz := F.zz
 refine ⟨fun i δ' S' => ∃ Z' ρ', FR SB Z0 S' Z' δ' ρ' /\ zec is g b (ts.drop i) ρ' = some o, ⟨Z, ρ, FB, e2⟩, fun i δ' S' ⟨Z', ρ', F', _⟩ => hk S' (b2.trans F'.sx), fun i d δ' S' hd ⟨Z', ρ', F', e'⟩ => ?_, fun δ' S' ⟨Z', ρ', F', e'⟩ => ?_⟩
 ·obtain ⟨y, hy, r2⟩ := r1.zoG hd
  have hlt := (List.getElem?_eq_some_iff.mp hy).1
  have hdt : ts.drop i = y :: ts.drop (i + 1) := by
   rw [List.drop_eq_getElem_cons hlt, (List.getElem?_eq_some_iff.mp hy).2]
  rw [hdt] at e'
  unfold zec at e'
  obtain ⟨ρ1, g1, e'⟩ := Option.bind_eq_some_iff.mp e'
  obtain ⟨o1, g2, e'⟩ := Option.bind_eq_some_iff.mp e'
  refine hg SB Z0 S' Z' δ' _ ρ1 y d _ (F'.frg is) (Sn.sx (F'.see b2 zz) y r2) g1 fun δ2 F2 => ?_
  refine hb SB Z0 S' Z' δ2 ρ1 o1 _ F2 g2 ?_
  cases o1 with
  | nx ρ2 => exact fun S3 Z3 δ3 F3 => ⟨Z3, ρ2, F3, e'⟩
  | ct ρ2 => exact fun S3 Z3 δ3 F3 => ⟨Z3, ρ2, F3, e'⟩
  | bk ρ2 => cases e'; exact fun S3 Z3 δ3 F3 => P S3 Z3 δ3 ((F3.frg is).back b1 F.z0)
  | rt y => cases e'; exact fun d S3 s3 r3 => P d S3 (b1.trans s3) (lo _ _ _ r3)
 ·rw [show I.items.length = ts.length from r1.len, List.drop_length] at e'
  unfold zec at e'
  cases e'
  exact P S' Z' δ' ((F'.frg is).back b1 F.z0)
end
end L5
namespace L5
open PySem L2 L3
@[simp] noncomputable def zkl (i : Nat) (f : Ev -> Option T) : Sm := fun ρ => match ρ[i]? with
 | some (some (.own (.lst ts))) => (f ρ).bind fun y => if ts.length < sizeLine then some (.nx (ρ.set i (some (.own (.lst (ts ++ [y])))))) else none
 | _ => none
section
variable {R : Rk} {f : Ev -> Option T} {te : TDE}
theorem zfW (i : Nat) (hf : OkE f te) : OkS R (zkl i f) (zqO (zdW (zjn i) te)) := fun S0 Z0 S Z δ ρ o E F e P => by
 unfold zkl at e
 split at e
 ·rename_i ts h
  obtain ⟨y, e1, e2⟩ := Option.bind_eq_some_iff.mp e
  split at e2
  ·rename_i hl
   cases e2
   obtain ⟨p, ob, h1, h2, h3, h4⟩ := F.er.ow i _ h
   obtain ⟨ds, rfl⟩ : ∃ ds, ob = .lst ds := by
    cases ob with
    | lst ds => exact ⟨ds, rfl⟩
    | dct _ => exact h3.elim
   replace h3 : Sns (hid S Z) ts ds := h3
   show zdW (zjn i) te δ S _
   unfold zdW zjn
   rw [h1]
   refine ⟨⟨ds, h2⟩, hf S Z δ ρ y _ F.er e1 fun d S1 s1 r1 => ?_⟩
   dsimp only
   rw [s1 _ _ h2]
   have F1 := F.grow s1
   refine ⟨by rw [h3.len]; exact hl, P _ Z δ (F1.mut (us := .lst (ts ++ [y])) (es := .lst (ds ++ [d])) i h h1 ((Sns.sx (zbY s1) ts h3).append (.cons r1 .nil)))⟩
  ·cases e2
 ·cases e
end
def dLW (pick : List (Option Nat)) (ti : TDI) (g : TDG) (tc : TDT) (te : TDE) : TDE := fun δ S Q => ti δ S fun I S1 => I.items.length <= sizeLine /\ (∀ S, Sx S1 S -> I.keep S) /\ ∀ p, S1 p = none -> ∃ W : Nat -> SS -> List D -> Prop, W 0 S1 [] /\
 (∀ i S S' acc, (∀ b o, b ≠ p -> S b = some o -> S' b = some o) -> W i S acc -> W i S' acc) /\
 (∀ i d S acc, I.items[i]? = some d -> Sx S1 S -> S p = some (.lst acc) -> W i S acc -> g d (zfz pick δ) S fun δ2 S2 => zoW (zfz pick δ) δ2 /\ tc δ2 S2 fun b S3 => if b = true then te δ2 S3 fun y S4 => Sx S S4 /\ W (i + 1) S4 (acc ++ [y]) else Sx S S3 /\ W (i + 1) S3 acc) /\
 ∀ S2 acc, Sx S1 S2 -> S2 p = some (.lst acc) -> W I.items.length S2 acc -> Q (.ref p) S2
@[simp] noncomputable def zkR (pick : List (Option Nat)) (ρ : Ev) : Ev := pick.map fun o => o.bind fun i => (ρ[i]?).join
noncomputable def ziS (h : T -> Option (Option T)) : List T -> Option (List T)
 | [] => some []
 | y :: ys => (h y).bind fun o => (ziS h ys).map fun zs => match o with
  | some z => z :: zs
  | none => zs
@[simp] noncomputable def lcE (pick : List (Option Nat)) (g : T -> Ev -> Option Ev) (c : Ev -> Option Bool) (f : Ev -> Option T) (ρ : Ev) (y : T) : Option (Option T) :=
 (g y (zkR pick ρ)).bind fun ρ2 => (c ρ2).bind fun b => if b = true then (f ρ2).map some else some none
noncomputable def lcS (pick : List (Option Nat)) (it : Ev -> Option (List T)) (g : T -> Ev -> Option Ev) (c : Ev -> Option Bool) (f : Ev -> Option T) : Ev -> Option T := fun ρ => (it ρ).bind fun ts => if ts.length <= sizeLine then (ziS (lcE pick g c f ρ) ts).map .lst else none
@[simp] noncomputable def zed : Ev -> Option Bool := fun _ => some true
theorem zbX : OkT zed zqG := fun S Z δ ρ y Q hE e hq => by cases e; exact hq S (.refl S)
def OkC (pick : List (Option Nat)) (g : T -> Ev -> Option Ev) (t : TDG) : Prop := ∀ B S Z δ ρ ρ' y d Q, (∀ i : Nat, pick[i]? = some none -> B[i]? = some none) -> zoW B δ -> δ.length = ρ.length -> ER S Z δ ρ -> Sn (hid S Z) y d -> g y ρ = some ρ' ->
 (∀ δ', ER S Z δ' ρ' -> zoW B δ' -> δ'.length = ρ'.length -> Q δ' S) -> t d δ S Q
def zq4 (pick : List (Option Nat)) (g : List T -> Ev -> Option Ev) (t : ziw) : Prop := ∀ B S Z δ ρ ρ' y d Q, (∀ i : Nat, pick[i]? = some none -> B[i]? = some none) -> zoW B δ -> δ.length = ρ.length -> ER S Z δ ρ -> Sns (hid S Z) y d -> g y ρ = some ρ' ->
 (∀ δ', ER S Z δ' ρ' -> zoW B δ' -> δ'.length = ρ'.length -> Q δ' S) -> t d δ S Q
theorem ER.zgi {S : SS} {Z : Addr -> Prop} {δ : StD} {ρ : Ev} {y : T} {d : D} (h : ER S Z δ ρ) (hl : δ.length = ρ.length) (i : Nat) (r : Sn (hid S Z) y d) : ER S Z (δ.set i (some d)) (ρ.set i (some (.im y))) := by
 refine ⟨h.zd, fun j t e => ?_, fun j ts e => ?_⟩
 ·rcases zaP e with ⟨rfl, hl', e⟩ | ⟨n, e⟩
  ·cases e; exact ⟨d, zcG (by rw [hl]; exact hl'), r⟩
  ·rw [zaX n]; exact h.im j t e
 ·rcases zaP e with ⟨rfl, hl', e⟩ | ⟨n, e⟩
  ·cases e
  ·rw [zaX n]; exact h.ow j ts e
variable {pick : List (Option Nat)}
theorem zct (i : Nat) (hi : pick[i]? = some none := by rfl) : OkC pick (nmG i) (hName i) := fun B S Z δ ρ ρ' y d Q hB hs hl hE r e hq => by
 cases e
 refine hq _ (hE.zgi hl i r) ⟨by rw [List.length_set]; exact hs.1, fun j c q => ?_⟩ (by simp [hl])
 by_cases hj : i = j
 ·subst hj; rw [hB i hi] at q; cases q
 ·rw [zaX hj]; exact hs.2 j c q
theorem zjd : zq4 pick zqo zrB := fun B S Z δ ρ ρ' y d Q hB hs hl hE r e hq => by
 cases y with
 | nil => simp only [Sns] at r; subst r; cases e; exact ⟨rfl, hq _ hE hs hl⟩
 | cons _ _ => cases e
theorem zeO {g : T -> Ev -> Option Ev} {h : List T -> Ev -> Option Ev} {t : TDG} {u : ziw} (hg : OkC pick g t) (hh : zq4 pick h u) : zq4 pick (zgo g h) (zoE t u) := fun B S Z δ ρ ρ' y d Q hB hs hl hE r e hq => by
 cases y with
 | nil => cases e
 | cons y ys =>
  simp only [Sns] at r
  obtain ⟨c, cs, rfl, r1, r2⟩ := r
  obtain ⟨ρ1, e1, e2⟩ := Option.bind_eq_some_iff.mp e
  exact hg B S Z δ ρ ρ1 y c _ hB hs hl hE r1 e1 fun δ1 E1 s1 l1 => hh B S Z δ1 ρ1 ρ' ys cs Q hB s1 l1 E1 r2 e2 hq
theorem znt {n : Nat} {g : List T -> Ev -> Option Ev} {t : ziw} (hg : zq4 pick g t) : OkC pick (tpG n g) (zqZ n t) := fun B S Z δ ρ ρ' y d Q hB hs hl hE r e hq => by
 cases y with
 | tup ys =>
  simp only [Sn] at r
  obtain ⟨ds, rfl, r⟩ := r
  simp only [tpG] at e
  split at e
  ·rename_i hn
   exact ⟨by rw [r.len]; exact hn, hg B S Z δ ρ ρ' ys ds Q hB hs hl hE r e hq⟩
  ·cases e
 | non => cases e
 | bl _ => cases e
 | int _ => cases e
 | str _ => cases e
 | lst _ => cases e
 | dic => cases e
theorem zhM {ρ : Ev} {i : Nat} {w : W} (h : (zkR pick ρ)[i]? = some (some w)) : ∃ j : Nat, pick[i]? = some (some j) /\ ρ[j]? = some (some w) := by
 unfold zkR at h
 rw [List.getElem?_map] at h
 cases q : pick[i]? with
 | none => rw [q] at h; cases h
 | some o =>
  rw [q] at h
  cases o with
  | none => simp at h
  | some j =>
   simp only [Option.map_some, Option.bind_some, Option.some.injEq] at h
   refine ⟨j, rfl, ?_⟩
   cases q2 : ρ[j]? with
   | none => rw [q2] at h; cases h
   | some o2 => rw [q2] at h; simp only [Option.join_some] at h; rw [h]
theorem zi9 {δ : StD} {i j : Nat} {d : D} (h : pick[i]? = some (some j)) (h' : δ[j]? = some (some d)) : (zfz pick δ)[i]? = some (some d) := by
 unfold zfz
 rw [List.getElem?_map, h]
 simp [h']
theorem ER.zrj {S : SS} {Z : Addr -> Prop} {δ : StD} {ρ : Ev} (h : ER S Z δ ρ) : ER S Z (zfz pick δ) (zkR pick ρ) := by
 refine ⟨h.zd, fun i t e => ?_, fun i ts e => ?_⟩
 ·obtain ⟨j, h1, h2⟩ := zhM e
  obtain ⟨d, h3, h4⟩ := h.im j t h2
  exact ⟨d, zi9 h1 h3, h4⟩
 ·obtain ⟨j, h1, h2⟩ := zhM e
  obtain ⟨p, ds, h3, h4⟩ := h.ow j ts h2
  exact ⟨p, ds, zi9 h1 h3, h4⟩
theorem ER.hide {S S' : SS} {Z : Addr -> Prop} {δ : StD} {ρ : Ev} {p : Addr} (h : ER S Z δ ρ) (s : Sx S S') (hp : S p = none) (hp' : S' p ≠ none) : ER S' (fun a => Z a \/ a = p) δ ρ := by
 refine ⟨fun a z q => ?_, fun i t e => ?_, fun i ts e => ?_⟩
 ·rcases z with z | rfl
  ·exact h.zd a z (s.none q)
  ·exact hp' q
 ·obtain ⟨d, h1, h2⟩ := h.im i t e
  exact ⟨d, h1, Sn.sx (zfi s hp) t h2⟩
 ·obtain ⟨q, ds, h1, h2, h3, h4⟩ := h.ow i ts e
  exact ⟨q, ds, h1, s _ _ h2, zl5.sx (zfi s hp) h3, .inl h4⟩
theorem zeR {it : Ev -> Option (List T)} {ti : TDI} {g : T -> Ev -> Option Ev} {tg : TDG} {c : Ev -> Option Bool} {tc : TDT} {f : Ev -> Option T} {te : TDE} {b : Bool} (hi : OkI b it ti) (hg : OkC pick g tg) (hc : OkT c tc) (hf : OkE f te) :
  OkF (lcS pick it g c f) (dLW pick ti tg tc te) := fun S Z δ ρ y Q hE e hq => by
 obtain ⟨ts, e1, e2⟩ := Option.bind_eq_some_iff.mp e
 split at e2
 case isFalse => cases e2
 rename_i hlen
 obtain ⟨zs, e3, rfl⟩ := Option.map_eq_some_iff.mp e2
 refine hi S Z δ ρ ts _ hE e1 fun I S1 s1 r1 hk => ⟨by rw [r1.len]; exact hlen, fun S' s' => hk S' ?_, fun p hp => ?_⟩
 ·cases b
  ·exact s'
  ·exact (zjk _ _).trans s'
 have E1 := hE.grow s1
 have nz : ¬ Z p := fun z => E1.zd p z hp
 refine ⟨fun i S' acc => ∃ us ws, Sns (hid S' fun a => Z a \/ a = p) us acc /\ ziS (lcE pick g c f ρ) (ts.drop i) = some ws /\ zs = us ++ ws, ⟨[], zs, .nil, e3, rfl⟩, fun i S' S'' acc hh ⟨us, ws, h1, h2⟩ => ⟨us, ws, Sns.sx (fun a o q => ?_) us h1, h2⟩, fun i d S2 acc hd s2 hacc ⟨us, ws, h1, h2, h3⟩ => ?_, fun S2 acc s2 hacc ⟨us, ws, h1, h2, h3⟩ => ?_⟩
 ·obtain ⟨q1, q2⟩ := zci q
  rw [zdF q1]
  exact hh a o (fun z => q1 (.inr z)) q2
 ·obtain ⟨x, hx, rx⟩ := r1.zoG hd
  have hlt := (List.getElem?_eq_some_iff.mp hx).1
  have hdt : ts.drop i = x :: ts.drop (i + 1) := by rw [List.drop_eq_getElem_cons hlt, (List.getElem?_eq_some_iff.mp hx).2]
  rw [hdt] at h2
  unfold ziS at h2
  obtain ⟨o, o1, h2⟩ := Option.bind_eq_some_iff.mp h2
  obtain ⟨ws', o2, rfl⟩ := Option.map_eq_some_iff.mp h2
  have E2 := (E1.hide s2 hp (by rw [hacc]; nofun)).zrj (pick := pick)
  unfold lcE at o1
  obtain ⟨ρ2, g1, o1⟩ := Option.bind_eq_some_iff.mp o1
  obtain ⟨bb, g2, o1⟩ := Option.bind_eq_some_iff.mp o1
  refine hg (zfz pick δ) S2 _ _ _ ρ2 x d _ (fun j hj => ?_) ⟨rfl, fun _ _ q => q⟩ (by unfold zfz zkR; simp) E2 (Sn.sx (zfi s2 hp) x rx) g1 fun δ2 E3 l3 _ => ⟨l3, ?_⟩
  ·unfold zfz; rw [List.getElem?_map, hj]; rfl
  refine hc S2 _ δ2 ρ2 bb _ E3 g2 fun S3 s3 => ?_
  split at o1
  ·rename_i hb
   rw [if_pos hb]
   obtain ⟨z, g3, rfl⟩ := Option.map_eq_some_iff.mp o1
   refine hf S3 _ δ2 ρ2 z _ (E3.grow s3) g3 fun dz S4 s4 r4 => ⟨s3.trans s4, us ++ [z], ws', ?_, o2, by rw [h3]; simp⟩
   exact (Sns.sx (zbY (s3.trans s4)) us h1).append (.cons r4 .nil)
  ·rename_i hb
   rw [if_neg hb]
   cases o1
   exact ⟨s3, us, ws', Sns.sx (zbY s3) us h1, o2, h3⟩
 ·rw [show I.items.length = ts.length from r1.len, List.drop_length] at h2
  cases h2
  rw [List.append_nil] at h3
  subst h3
  refine hq _ S2 (s1.trans s2) ⟨?_, fun vs e => ?_⟩
  ·simp only [Sn]
   exact ⟨acc, .inr ⟨p, rfl, by rw [zdF nz]; exact hacc⟩, Sns.sx (zf6 fun a z => .inl z) zs h1⟩
  ·cases e
   exact ⟨p, acc, rfl, s1.none hp, hacc, h1⟩
class Sr (R : Rk) : Prop extends Lo R where
 sn : ∀ {S S' : SS} {Z : Addr -> Prop} {y : T} {d : D}, R S S' Z y d -> Sn (hid S' Z) y d
instance : Sr RkV := ⟨fun h => h⟩
instance : Sr RkF := ⟨fun h => h.1⟩
def spF (R : Rk) (F : List T -> Option T) : SpD := fun ds S Q => ∃ Z ys y, (∀ a, Z a -> S a ≠ none) /\ Sns (hid S Z) ys ds /\ F ys = some y /\ ∀ d S', Sx S S' -> R S S' Z y d -> Q d S'
theorem spF.mo {R : Rk} {F : List T -> Option T} : MoP (spF R F) := fun _ _ _ _ hq ⟨Z, ys, y, h1, h2, h3, h4⟩ => ⟨Z, ys, y, h1, h2, h3, fun d S' s r => hq _ _ (h4 d S' s r)⟩
theorem zat {R : Rk} [Lo R] {F : List T -> Option T} {g : Ev -> Option (List T)} {u : TDA} (h : zo9 g u) : OkX R (cbS F g) (zoN (spF R F) u) := fun S Z δ ρ y Q hE e hq => by
 obtain ⟨xs, e1, e2⟩ := Option.bind_eq_some_iff.mp e
 refine h S Z δ ρ xs _ hE e1 fun ds S1 s1 r1 => ?_
 exact ⟨Z, xs, y, (hE.grow s1).zd, r1, e2, fun d S' s r => hq d S' (s1.trans s) (Cl.cl s1 r)⟩
@[simp] noncomputable def zgu (N : List Str) (ys : List T) : Ev := ys.map (fun y => some (.im y)) ++ List.replicate (N.length - ys.length) none
@[simp] noncomputable def zgh : Option Out -> Option T
 | some (.rt y) => some y
 | some (.nx _) => some .non
 | _ => none
@[simp] noncomputable def zef (N : List Str) (n : Nat) (g : Sm) : List T -> Option T := fun ys => if ys.length = n then zgh (g (zgu N ys)) else none
theorem spF.len {R : Rk} {N : List Str} {n : Nat} {g : Sm} {ds : List D} {S : SS} {Q : DK} (hs : spF R (zef N n g) ds S Q) : ds.length = n := by
 obtain ⟨Z, ys, y, hz, r, e, hq⟩ := hs
 unfold zef at e
 split at e
 ·rename_i h; rw [r.len]; exact h
 ·cases e
theorem zjA {N : List Str} {ds : List D} {i : Nat} {d : D} (h : ds[i]? = some d) : (zex N ds)[i]? = some (some d) := by
 have hi := (List.getElem?_eq_some_iff.mp h).1
 unfold zex
 rw [List.getElem?_append_left (by simpa using hi), List.getElem?_map, h]; rfl
theorem zd1 {N : List Str} {ys : List T} {i : Nat} {w : W} (h : (zgu N ys)[i]? = some (some w)) : ∃ y, ys[i]? = some y /\ w = .im y := by
 unfold zgu at h
 have hi : i < ys.length := by
  rcases Nat.lt_or_ge i ys.length with q | q
  ·exact q
  ·rw [List.getElem?_append_right (by simpa using q), List.getElem?_replicate] at h
   split at h <;> cases h
 rw [List.getElem?_append_left (by simpa using hi), List.getElem?_map] at h
 cases q : ys[i]? with
 | none => rw [q] at h; cases h
 | some y => rw [q] at h; cases h; exact ⟨y, rfl, rfl⟩
theorem zoR {R : Rk} [Lo R] {N : List Str} {n : Nat} {g : Sm} {t : TDS} (h : OkS R g t) {ds : List D} {S : SS} {Q : DK} (hs : spF R (zef N n g) ds S Q) : t { nx := fun _ S' => Q .non S', rt := Q } (zex N ds) S := by
 obtain ⟨Z, ys, y, hz, r, e, hq⟩ := hs
 unfold zef at e
 split at e
 case isFalse => cases e
 obtain ⟨o, e1, e2⟩ : ∃ o, g (zgu N ys) = some o /\ zgh (some o) = some y := by
  cases q : g (zgu N ys) with
  | none => rw [q] at e; cases e
  | some o => exact ⟨o, rfl, by rw [<- q]; exact e⟩
 refine h S Z S Z _ _ o _ ⟨⟨hz, fun i t e => ?_, fun i ts e => ?_⟩, ?_, .refl S, hz, fun _ z => z, fun _ z => .inl z, fun i ts p e _ => ?_, fun i j ts us p _ e _ _ _ => ?_⟩ e1 ?_
 ·obtain ⟨y', h1, h2⟩ := zd1 e
  cases h2
  obtain ⟨d, h3, h4⟩ := r.zrC h1
  exact ⟨d, zjA h3, h4⟩
 ·obtain ⟨y', h1, h2⟩ := zd1 e
  cases h2
 ·unfold zex zgu
  have := r.len
  simp [this]
 ·obtain ⟨y', h1, h2⟩ := zd1 e
  cases h2
 ·obtain ⟨y', h1, h2⟩ := zd1 e
  cases h2
 ·cases o with
  | rt y' => cases e2; exact fun d S' s r => hq d S' s r
  | nx ρ' =>
   cases e2
   exact fun S' Z' δ' F => hq .non S' F.sx (Cl.of (fun _ => nofun) znf)
  | bk _ => cases e2
  | ct _ => cases e2
end L5
namespace L5
open PySem L2 L3
noncomputable def zsp (kvs : List (Key × T)) (k : Key) : Option T := (kvs.find? fun kv => decide (kv.1 = k)).map (·.2)
section
variable {S : SS}
end
@[simp] noncomputable def zsZ (i : Nat) (f : Ev -> Option T) : Ev -> Option T := fun ρ => (f ρ).bind fun y => match ρ[i]?, y with
 | some (some (.own (.dct kvs))), .int k => zsp kvs (.inl k)
 | _, _ => none
section
variable {R : Rk} {f g v : Ev -> Option T} {ty tx tv : TDE}
end
@[simp] noncomputable def zo7 (f : Ev -> Option T) : Ev -> Option T := fun ρ => (f ρ).bind fun x => match x with
 | .int i => some (.int (-i))
 | _ => none
def zsh (ta : TDE) : TDE := fun δ S Q => ta δ S fun x S1 => match x with
 | .int i => Q (.int (-i)) S1
 | _ => False
theorem zhU {f : Ev -> Option T} {te : TDE} (h : OkR f te) : OkF (zo7 f) (zsh te) := fun S Z δ ρ y Q hE e hq => by
 obtain ⟨x, e1, e2⟩ := Option.bind_eq_some_iff.mp e
 refine h S Z δ ρ x _ hE e1 fun d S1 s1 r1 => ?_
 split at e2
 ·cases Vw.int r1
  cases e2
  exact hq _ S1 s1 (Cl.of (fun _ => nofun) zda)
 ·cases e2
noncomputable def zfB : List T -> Option (List Int)
 | [] => some []
 | .int i :: ts => (zfB ts).map (i :: ·)
 | _ :: _ => none
noncomputable def zgj : List T -> Option (List (List Int))
 | [] => some []
 | .tup r :: ts => (zfB r).bind fun x => (zgj ts).map (x :: ·)
 | _ :: _ => none
noncomputable def zaV (r : List Int) : T := .tup (r.map T.int)
theorem zdj : ∀ {ts : List T} {is : List Int}, zfB ts = some is -> ts = is.map T.int
 | [], is, h => by cases h; rfl
 | .int b :: ts, is, h => by
  unfold zfB at h
  obtain ⟨cs, h1, rfl⟩ := Option.map_eq_some_iff.mp h
  rw [List.map_cons, <- zdj h1]
 | .non :: ts, bs, h => by cases h
 | .bl _ :: ts, bs, h => by cases h
 | .str _ :: ts, bs, h => by cases h
 | .tup _ :: ts, bs, h => by cases h
 | .lst _ :: ts, bs, h => by cases h
theorem ze9 : ∀ {ts : List T} {rs : List (List Int)}, zgj ts = some rs -> ts = rs.map zaV
 | [], is, h => by cases h; rfl
 | .tup r :: ts, is, h => by
  unfold zgj at h
  obtain ⟨x, h1, h⟩ := Option.bind_eq_some_iff.mp h
  obtain ⟨cs, h2, rfl⟩ := Option.map_eq_some_iff.mp h
  rw [List.map_cons, <- ze9 h2, zdj h1]; rfl
 | .non :: ts, bs, h => by cases h
 | .bl _ :: ts, bs, h => by cases h
 | .str _ :: ts, bs, h => by cases h
 | .int _ :: ts, bs, h => by cases h
 | .lst _ :: ts, bs, h => by cases h
theorem zdU (is : List Int) : zfB (is.map T.int) = some is := by
 induction is with
 | nil => rfl
 | cons b bs ih => rw [List.map_cons]; unfold zfB; rw [ih]; rfl
theorem zhI (rs : List (List Int)) : zgj (rs.map zaV) = some rs := by
 induction rs with
 | nil => rfl
 | cons b bs ih =>
  show zgj (.tup (b.map T.int) :: bs.map zaV) = _
  unfold zgj; rw [zdU, ih]; rfl
theorem zcw {S : SS} : ∀ {is : List Int} {ds : List D}, Sns S (is.map T.int) ds ↔ ds = is.map D.int
 | [], ds => by simp only [List.map_nil, Sns]
 | i :: is, ds => by
  rw [List.map_cons]
  simp only [Sns, Sn]
  constructor
  ·rintro ⟨c, cs, rfl, rfl, h⟩
   rw [zcw.mp h]; rfl
  ·rintro rfl
   exact ⟨.int i, _, rfl, rfl, zcw.mpr rfl⟩
theorem zd2 {S : SS} : ∀ {rs : List (List Int)} {ds : List D}, Sns S (rs.map zaV) ds ↔ ds = rs.map zht
 | [], ds => by simp only [List.map_nil, Sns]
 | r :: rs, ds => by
  rw [List.map_cons]
  simp only [Sns, zaV, Sn]
  constructor
  ·rintro ⟨c, cs, rfl, ⟨es, rfl, h1⟩, h⟩
   rw [zd2.mp h, zcw.mp h1]; rfl
  ·rintro rfl
   exact ⟨zht r, _, rfl, ⟨_, rfl, zcw.mpr rfl⟩, zd2.mpr rfl⟩
@[simp] noncomputable def tyT : T -> String
 | .non => "NoneType"
 | .bl _ => "bool"
 | .int _ => "int"
 | .str _ => "str"
 | .tup _ => "tuple"
 | .lst _ => "list"
 | .dic => "dict"
@[simp] noncomputable def instS (ty : String) (f : Ev -> Option T) : Ev -> Option T := fun ρ => (f ρ).map fun x => .bl (isT (tyT x) ty)
theorem zbJ {ty : String} {f : Ev -> Option T} {te : TDE} (hf : OkR f te) : OkF (instS ty f) (zj5 ty te) := fun S Z δ ρ y Q hE e hq => by
 obtain ⟨x, e1, rfl⟩ := Option.map_eq_some_iff.mp e
 refine hf S Z δ ρ x _ hE e1 fun d S1 s1 r1 => ?_
 have key : tyD d S1 = some (tyT x) := by
  cases x with
  | non => cases Vw.non r1; rfl
  | bl _ => cases Vw.bl r1; rfl
  | int _ => cases Vw.int r1; rfl
  | str _ => cases Vw.str r1; rfl
  | tup _ => obtain ⟨ds, rfl, _⟩ := Vw.tup r1; rfl
  | lst _ =>
   obtain ⟨ds, rfl | ⟨a, rfl, h1⟩, h2⟩ := Vw.lst r1
   ·rfl
   ·unfold tyD; dsimp only; rw [h1]; rfl
  | dic =>
   obtain ⟨a, kvs, rfl, h1⟩ := Vw.dic r1
   unfold tyD; dsimp only; rw [h1]; rfl
 rw [key]
 exact hq _ S1 s1 (Cl.of (fun _ => nofun) zei)
@[simp] noncomputable def isNone : T -> Bool
 | .non => true
 | _ => false
noncomputable def zo8 : D -> Bool
 | .non => true
 | _ => false
end L5
namespace L5
open PySem L2 L3
noncomputable def prT (p : Int × Int) : T := .tup [.int p.1, .int p.2]
noncomputable def zdL (ns : List Int) : T := .lst (ns.map .int)
@[simp] theorem zpl : sizeLine = 16777216 := rfl
theorem zd8 {n : Nat} (h : n <= 10000) : n <= sizeLine := Nat.le_trans h (by decide)
theorem zmC {n : Nat} (h : n <= 10000) : n < sizeLine := Nat.lt_of_le_of_lt h (by decide)
theorem zck {α : Type} {xs : List α} {k : Nat} {x : α} (h : xs[k]? = some x) : L2.atI xs (k : Int) = some x := by
 unfold L2.atI L2.ixN
 have hk := (List.getElem?_eq_some_iff.mp h).1
 rw [if_pos (by omega), if_pos (by omega)]
 simpa using h
@[simp] theorem zmY {α : Type} {xs : List α} {x : α} : L2.atI (xs ++ [x]) (-1) = some x := by
 unfold L2.atI L2.ixN
 rw [if_neg (by omega), if_pos (by simp; omega)]
 have : (-1 + ((xs ++ [x]).length : Int)).toNat = xs.length := by simp; omega
 rw [Option.bind_some, this]
 simp
@[simp] theorem zsS {α : Type} {x : α} {xs : List α} : L2.atI (x :: xs) 0 = some x := zck (k := 0) rfl
@[simp] theorem zsR {α : Type} {x y : α} {xs : List α} : L2.atI (x :: y :: xs) 1 = some y := zck (k := 1) rfl
@[simp] theorem zsQ {α : Type} {x y z : α} {xs : List α} : L2.atI (x :: y :: z :: xs) 2 = some z := zck (k := 2) rfl
@[simp] theorem zsP {α : Type} {x y z w : α} {xs : List α} : L2.atI (x :: y :: z :: w :: xs) 3 = some w := zck (k := 3) rfl
theorem zid {α : Type} (enc : α -> T) (g : α -> Option T) (h : T -> Option (Option T)) : ∀ (xs : List α), (∀ x ∈ xs, h (enc x) = some (g x)) -> ziS h (xs.map enc) = some (xs.filterMap g)
 | [], _ => rfl
 | x :: xs, hh => by
  rw [List.map_cons]
  unfold ziS
  rw [hh x List.mem_cons_self, zid enc g h xs fun y hy => hh y (List.mem_cons_of_mem _ hy)]
  cases q : g x <;> simp [q]
theorem zj8 {α : Type} (enc : α -> T) (g : α -> T) (h : T -> Option (Option T)) (xs : List α) (hh : ∀ x ∈ xs, h (enc x) = some (some (g x))) : ziS h (xs.map enc) = some (xs.map g) := by
 rw [zid enc (fun x => some (g x)) h xs hh]
 simp
theorem zcS {α : Type} (enc : α -> T) (h : α -> T) {pick : List (Option Nat)} {it : Ev -> Option (List T)} {g : T -> Ev -> Option Ev} {c : Ev -> Option Bool} {f : Ev -> Option T} {ρ : Ev} (xs : List α) (hi : it ρ = some (xs.map enc)) (hl : xs.length <= 16777216)
  (hh : ∀ x ∈ xs, lcE pick g c f ρ (enc x) = some (some (h x))) : lcS pick it g c f ρ = some (.lst (xs.map h)) := by
 unfold lcS
 rw [hi, Option.bind_some, if_pos (by rw [List.length_map]; exact hl), zj8 enc h _ xs hh]; rfl
section
variable {α : Type} {is : List Nat} {g : T -> Ev -> Option Ev} {b : Sm}
noncomputable def turn (g : T -> Ev -> Option Ev) (b : Sm) (y : T) (ρ : Ev) : Option Out := (g y ρ).bind b
theorem zh2 (y : T) (ys : List T) (ρ : Ev) : zec is g b (y :: ys) ρ = (turn g b y (frg is ρ)).bind fun o => match o with
  | .nx ρ2 => zec is g b ys ρ2
  | .ct ρ2 => zec is g b ys ρ2
  | .bk ρ2 => some (.nx (frg is ρ2))
  | .rt t => some (.rt t) := by
 unfold turn
 rw [zec]
 cases g y (frg is ρ) <;> rfl
theorem zg8 (enc : α -> T) (test : α -> Bool) (v : T) (ρ0 : Ev) : ∀ (xs : List α) (ρ : Ev), frg is ρ = ρ0 -> (∀ x ∈ xs, ∃ ρ', frg is ρ' = ρ0 /\ turn g b (enc x) ρ0 = some (if test x = true then .rt v else .nx ρ')) -> zec is g b (xs.map enc) ρ = some (if xs.any test = true then .rt v else .nx ρ0)
 | [], ρ, h, _ => by rw [List.map_nil, zec, h]; rfl
 | x :: xs, ρ, h, hs => by
  obtain ⟨ρ', h1, h2⟩ := hs x List.mem_cons_self
  rw [List.map_cons, zh2, h, h2, List.any_cons]
  cases q : test x with
  | true => simp
  | false =>
   have ih := zg8 enc test v ρ0 xs ρ' h1 fun y hy => hs y (List.mem_cons_of_mem _ hy)
   simpa using ih
theorem zjf (enc : α -> T) (I : List α -> Ev -> Prop) : ∀ (xs : List α) (pre : List α) (ρ : Ev), I pre (frg is ρ) ->
  (∀ p x q, pre ++ xs = p ++ x :: q -> ∀ ρ, I p ρ -> ∃ ρ', turn g b (enc x) ρ = some (.nx ρ') /\ I (p ++ [x]) (frg is ρ')) -> ∃ ρ', zec is g b (xs.map enc) ρ = some (.nx ρ') /\ I (pre ++ xs) ρ'
 | [], pre, ρ, h, _ => ⟨frg is ρ, by rw [List.map_nil, zec], by simpa using h⟩
 | x :: xs, pre, ρ, h, hs => by
  obtain ⟨ρ', h1, h2⟩ := hs pre x xs rfl _ h
  rw [List.map_cons, zh2, h1]
  have ih := zjf enc I xs (pre ++ [x]) ρ' h2 fun p y q e => hs p y q (by rw [<- e]; simp)
  simpa using ih
theorem zdh (enc : α -> T) (I : List α -> Ev -> Prop) (xs : List α) (ρ : Ev) (h : I [] (frg is ρ))
  (hs : ∀ p x q, xs = p ++ x :: q -> ∀ ρ, I p ρ -> ∃ ρ', turn g b (enc x) ρ = some (.nx ρ') /\ I (p ++ [x]) (frg is ρ')) : ∃ ρ', zec is g b (xs.map enc) ρ = some (.nx ρ') /\ I xs ρ' := zjf enc I xs [] ρ h hs
end
theorem zd3 (n : Nat) (h : n <= 100000) : zmi [.int (n : Int)] = some ((List.range n).map fun (k : Nat) => T.int (0 + (k : Int))) := by
 show (if inR (n : Int) = true then some (rangeT 0 (n : Int).toNat) else none) = _
 rw [if_pos (zhd.mpr ⟨by omega, by omega⟩)]
 rfl
theorem zgQ (a n : Nat) (h : a <= 100000) (h' : n <= 100000) : zjH [.int (a : Int), .int (n : Int)] = some ((List.range (n - a)).map fun (k : Nat) => T.int ((a : Int) + (k : Int))) := by
 show (if inR (a : Int) = true /\ inR (n : Int) = true then some (rangeT a ((n : Int) - a).toNat) else none) = _
 rw [if_pos ⟨zhd.mpr ⟨by omega, by omega⟩, zhd.mpr ⟨by omega, by omega⟩⟩, show ((n : Int) - a).toNat = n - a by omega]
 rfl
end L5
namespace L2
open PySem PySem.Spec PyProof.Rows
section
variable {X : Cx}
def zpw (K : PySem.W.Frag) : R2 := fun x y H Q => ∃ l b xs zs, x = .ref l /\ y = .ref b /\ SqL K H l xs /\ SqL K H b zs /\ xs.length + zs.length <= sizeLine /\ ∀ p, H p = none -> Q (.ref p) (upd H p (.lst (xs ++ zs)))
theorem zop : OpR X (binaryOp .Add) (zpw X.K) := by
 intro pins s σ H x y v u Q I rx ry h
 obtain ⟨l, b, xs, zs, rfl, rfl, hH, hB, hz, q⟩ := h
 cases rx
 cases ry
 obtain ⟨its, r, p1, _⟩ := I.list hH
 obtain ⟨its2, r2, p2, _⟩ := I.list hB
 obtain ⟨⟨cls, dd, data, sl⟩, ho, hc, n, hd⟩ := p1.isList
 obtain ⟨⟨cls2, dd2, data2, sl2⟩, ho2, hc2, n2, hd2⟩ := p2.isList
 simp only at hc hd hc2 hd2
 subst hc hd hc2 hd2
 have e : its.toArray ++ its2.toArray = (its ++ its2).toArray := by simp
 refine concat_meets ⟨_, ho, rfl⟩ ⟨_, ho2, rfl⟩ noFill_list_add seq_list_add PySem.F.slot_list_add PySem.F.entry_list_add (PySem.F.args_list_add_2 _ _) (list_addW l b its.toArray its2.toArray n n2 dd dd2 sl sl2 (by rw [List.size_toArray, List.size_toArray, <- r.length, <- r2.length]; exact hz)) ⟨ho, ho2, ?_⟩
 rw [e]
 exact ⟨.ref _, _, I.zsG (t' := s.toks) (r.append r2) (by rw [List.length_append]; omega), rfl, q _ I.fresh⟩
def znj (K : PySem.W.Frag) : R2 := fun x y H Q => ∃ a b ys, x = .ref a /\ y = .ref b /\ SqT K H a [] /\ SqT K H b ys /\ Q (.ref b) H
theorem zmy : OpR X (binaryOp .Add) (znj X.K) := by
 intro pins s σ H x y v u Q I rx ry h
 obtain ⟨l, b, ys, rfl, rfl, hH, hB, q⟩ := h
 cases rx
 cases ry
 obtain ⟨its, r, p1, _⟩ := I.tuple hH
 obtain ⟨its2, r2, p2, _⟩ := I.tuple hB
 obtain ⟨⟨cls, dd, data, sl⟩, ho, hc, n, hd⟩ := id p1
 obtain ⟨⟨cls2, dd2, data2, sl2⟩, ho2, hc2, n2, hd2⟩ := id p2
 simp only at hc hd hc2 hd2
 subst hc hd hc2 hd2
 exact concat_meets ⟨_, ho, rfl⟩ ⟨_, ho2, rfl⟩ noFill_tuple_add seq_tuple_add PySem.F.slot_tuple_add PySem.F.entry_tuple_add (PySem.F.args_tuple_add_2 _ _)
   (tuple_addW0 l b its.toArray its2.toArray n n2 dd dd2 sl sl2 (by cases r; rfl)) ⟨ho, ho2, ⟨.ref b, H, I, rfl, q⟩⟩
end
end L2
namespace L5
open PySem PySem.Spec L2 L3
open PyProof.Rows hiding St
section
variable {X : Cx} {K : PySem.W.Frag} {a b c e : Expr} {es : List Expr} {ta tb tc te : TDE} {tA : TDA} {pos p : Pos}
theorem zfD.mo : MoR zfD := fun x y S Q Q' hq h => by
 cases x with
 | non => exact h
 | bl _ => exact h
 | int i => cases y <;> first | exact hq _ _ h | exact h
 | str i => cases y <;> first | exact ⟨h.1, hq _ _ h.2⟩ | exact h
 | tup i => cases y <;> first | exact ⟨h.1, hq _ _ h.2⟩ | exact h
 | rol ds =>
  unfold zfD at h ⊢
  dsimp only at h ⊢
  split at h
  ·exact ⟨h.1, h.2.1, fun r hr => hq _ _ (h.2.2 r hr)⟩
  ·exact h.elim
 | ref q =>
  unfold zfD at h ⊢
  dsimp only at h ⊢
  split at h
  ·exact ⟨h.1, h.2.1, fun r hr => hq _ _ (h.2.2 r hr)⟩
  ·exact h.elim
theorem zej {H : Hp} {S : SS} {d : D} {v : V} {ds : List D} (r : zau K H d v) (p : zbV K H S) (e : za7 d S = some ds) (n : ∀ ts, d ≠ .tup ts) : ∃ a xs, v = .ref a /\ SqL K H a xs /\ zak K H ds xs := by
 unfold za7 at e
 split at e
 ·exact absurd rfl (n _)
 ·cases e
  simp only [zau] at r
  obtain ⟨a, xs, h1, h2, h3⟩ := r
  exact ⟨a, xs, h1, h2.sq, h3⟩
 ·split at e
  ·rename_i q
   cases e
   simp only [zau] at r
   subst r
   obtain ⟨xs, h1, h2⟩ := p _ _ q
   exact ⟨_, xs, rfl, SqL.of h1, h2⟩
  ·cases e
 ·cases e
abbrev zpx (K : PySem.W.Frag) : R2 := fun x y H Q => rI0 (fun i j => .int (i + j)) x y H Q \/ ((∃ i j, x = .str i /\ y = .str j /\ i.length + j.length <= sizeLine /\ Q (.str (i ++ j)) H) \/ (zpw K x y H Q \/ (znj K x y H Q \/ zpv K x y H Q)))
theorem zfD.fits : zcZ K zfD (zpx K) := fun x y d e H S Q h1 h2 h3 h => by
 have lst : (∀ ts, d ≠ .tup ts) -> (match za7 d S, za7 e S with
  | some ds, some es => (∀ ts, e ≠ .tup ts) /\ ds.length + es.length <= sizeLine /\ ∀ r, S r = none -> dnK K H Q (.ref r) (ups S r (.lst (ds ++ es)))
  | _, _ => False) -> zpx K x y H Q := fun n h => by
  split at h
  ·rename_i ds es q1 q2
   obtain ⟨a, xs, rfl, g1, g2⟩ := zej h1 h3 q1 n
   obtain ⟨b, ys, rfl, g3, g4⟩ := zej h2 h3 q2 h.1
   refine .inr (.inr (.inl ⟨a, b, xs, ys, rfl, rfl, g1, g3, by rw [<- g2.length, <- g4.length]; exact h.2.1, fun p hp => ?_⟩))
   exact h.2.2 p (h3.none hp) _ _ (by simp only [zau]) (.new hp _) (h3.ups (.new hp _) ⟨_, zaA, zak.ext (.new hp _) _ (g2.append g4)⟩)
  ·exact h.elim
 cases d with
 | non => exact h.elim
 | bl _ => exact h.elim
 | int i =>
  cases e with
  | int j =>
   simp only [zau] at h1 h2
   exact .inl ⟨_, _, h1, h2, h _ H (by simp only [zau]) (.refl H) h3⟩
  | non => exact h.elim
  | bl _ => exact h.elim
  | str _ => exact h.elim
  | tup _ => exact h.elim
  | rol _ => exact h.elim
  | ref _ => exact h.elim
 | str i =>
  cases e with
  | str j =>
   simp only [zau] at h1 h2
   exact .inr (.inl ⟨_, _, h1, h2, h.1, h.2 _ H (by simp only [zau]) (.refl H) h3⟩)
  | non => exact h.elim
  | bl _ => exact h.elim
  | int _ => exact h.elim
  | tup _ => exact h.elim
  | rol _ => exact h.elim
  | ref _ => exact h.elim
 | tup ds =>
  cases e with
  | tup es =>
   have h1' := h1
   have h2' := h2
   simp only [zau] at h1 h2
   obtain ⟨a, xs, rfl, g1, g2⟩ := h1
   obtain ⟨b, ys, rfl, g3, g4⟩ := h2
   have hl := g2.length
   have hl' := g4.length
   by_cases hx : xs = []
   ·subst hx
    have : ds = [] := by cases ds <;> simp_all
    subst this
    exact .inr (.inr (.inr (.inl ⟨a, b, ys, rfl, rfl, g1, g3, h.2 _ H h2' (.refl H) h3⟩)))
   ·refine .inr (.inr (.inr (.inr ⟨a, b, xs, ys, rfl, rfl, g1, g3, hx, by rw [<- hl, <- hl']; exact h.1, fun hy => ?_, fun hy p hp => ?_⟩)))
    ·subst hy
     have : es = [] := by cases es <;> simp_all
     subst this
     refine h.2 _ H ?_ (.refl H) h3
     rw [List.append_nil]; exact h1'
    ·refine h.2 _ _ ?_ (.new hp _) (h3.new hp)
     simp only [zau]
     exact ⟨p, _, rfl, SqT.of zaA, zak.ext (.new hp _) _ (g2.append g4)⟩
  | non => exact h.elim
  | bl _ => exact h.elim
  | int _ => exact h.elim
  | str _ => exact h.elim
  | rol _ => exact h.elim
  | ref _ => exact h.elim
 | rol ds => exact lst (fun _ => nofun) h
 | ref q => exact lst (fun _ => nofun) h
theorem zaQ (ha : PD X a ta) (hb : PD X b tb) : PD X (.BinOp a .Add b pos) (dOp zfD ta tb) := zhO (zqc.or (zjR.or (zop.or (zmy.or zoo)))) zfD.fits zfD.mo ha hb
theorem zl3.mo {g : List Bool -> Bool} : MoN (zl3 g) := fun ds S Q Q' hq h => by
 unfold zl3 at h ⊢
 split at h
 ·exact h.elim
 ·obtain ⟨bs, h1, h2⟩ := h
  exact ⟨bs, h1, hq _ _ h2⟩
 ·exact h.elim
theorem zl3.fits {g : List Bool -> Bool} : zho K (zl3 g) (fun xs H Q => ∃ p, ∃ bs : List Bool, xs = [.ref p] /\ SqL K H p (bs.map V.bl) /\ Q (.bl (g bs)) H) := fun xs ds H S Q h0 h2 h => by
 unfold zl3 at h
 split at h
 ·exact h.elim
 ·rename_i d hn
  obtain ⟨x, hx, h1⟩ := h0.one; subst hx
  obtain ⟨bs, e, h⟩ := h
  obtain ⟨a, ys, rfl, g1, g2⟩ := zej h1 h2 e (fun ts z => hn ts z)
  rw [g2.bools] at g1
  exact ⟨a, bs, rfl, g1, h _ H (by simp only [zau]) (.refl H) h2⟩
 ·exact h.elim
theorem zdq (hm : X.mg "all" = none) (ha : PDA X (e :: es) tA) (hc : X.calm = true := by rfl) (hg : Gl X "all" := by rfl) (he : starEach (e :: es) X.env = (false, eval e X.env) :: starEach es X.env := by rfl) (hpl : (backTo pos (starEach es X.env)).any (·.1) = false := by rfl) : PD X (.Call (.Name "all" p) (e :: es) [] pos) (dCB (zl3 fun bs => bs.all id) tA) :=
 zcL (zeF (zlM hc) hg hm boot_all ha.pa (by decide) (by decide) he hpl) zl3.mo zl3.fits ha.mo
theorem zll {H : Hp} {d : D} {v : V} (r : zau K H d v) : decide (v = .non) = zo8 d := by
 cases d with
 | non => simp only [zau] at r; subst r; rfl
 | bl _ => simp only [zau] at r; subst r; rfl
 | int _ => simp only [zau] at r; subst r; rfl
 | str _ => simp only [zau] at r; subst r; rfl
 | tup _ => simp only [zau] at r; obtain ⟨a, xs, rfl, _⟩ := r; rfl
 | rol _ => simp only [zau] at r; obtain ⟨a, xs, rfl, _⟩ := r; rfl
 | ref _ => simp only [zau] at r; subst r; rfl
theorem zhP (ha : PD X a ta) : PD X (.UnaryOp .USub a pos) (zsh ta) := by
 refine ⟨fun δ S Q Q' hq h => ha.mo δ S _ _ (fun x S1 z => by
  cases x <;> first
   | exact hq _ _ z
   | exact z) h, PE.imp (zpL znb ha.pe) fun σ H Q hu => ?_⟩
 obtain ⟨δ, S, r1, r2, h⟩ := hu
 refine upE.go ha.mo r1 r2 h fun x S1 v H1 h1 q1 e1 p1 => ?_
 cases x with
 | int i => simp only [zau] at q1; exact ⟨i, q1, h1 _ H1 (by simp only [zau]) e1 p1⟩
 | non => exact h1.elim
 | bl _ => exact h1.elim
 | str _ => exact h1.elim
 | tup _ => exact h1.elim
 | rol _ => exact h1.elim
 | ref _ => exact h1.elim
section
variable {N' : List Str} {pick : List (Option Nat)} {scope : Scope} {tg elt iter : Expr} {ifs : List Expr} {ti : TDI} {g : TDG} {tcc : TDT}
theorem dLW.mo (hi : MoI ti) : MoE (dLW pick ti g tcc te) := fun δ S Q Q' hq z => hi δ S _ _ (fun I S1 ⟨h1, h2, h3⟩ => ⟨h1, h2, fun p hp => by
 obtain ⟨W, w0, w1, w2, w3⟩ := h3 p hp
 exact ⟨W, w0, w1, w2, fun S2 acc a b c => hq _ _ (w3 S2 acc a b c)⟩⟩) z
theorem zsq (hi : MoI ti) (hg : MoG g) (hc : MoT tcc) (he : MoE te) {σ : St} {H : Hp} {Q : VK} (hu : upE K (dLW pick ti g tcc te) σ H Q) : tLC pick (upI K ti) (upG K g) (upT K tcc) (upE K te) σ H Q := by
 obtain ⟨δ, S, r1, r2, z⟩ := hu
 refine ⟨δ, S, r1, r2, hi δ S _ _ (fun I S1 hF J H1 e1 p1 rep D hD => ?_) z⟩
 obtain ⟨hlen, hk, hF⟩ := hF
 have hS1 : S1 D = none := p1.none hD
 obtain ⟨W, w0, wm, wstep, wfin⟩ := hF D hS1
 refine ⟨fun i m σ H2 => m = I.items.length - i /\ i <= I.items.length /\ Ext H1 H2 /\ zb6 K H2 (zfz pick δ) σ /\ ∃ S2 acc, zbV K H2 S2 /\ Sx S1 S2 /\ S2 D = some (.lst acc) /\ acc.length <= i /\ W i S2 acc, ⟨_, rfl, Nat.zero_le _, .new hD _, ((r1.ext e1).pick pick).ext (.new hD _), ups S1 D (.lst []), [], ?_, .new hS1 _, zc0, Nat.le_refl _, ?_⟩, ?_⟩
 ·exact p1.ups (.new hD _) ⟨[], zaA, .nil⟩
 ·exact wm 0 S1 _ [] (fun b o hb q => by rw [zeu hb]; exact q) w0
 rintro i m σ2 H2 ⟨rfl, hi', x2, q1, S2, acc, q2, sx, hS2, hacc, hW⟩
 obtain ⟨g1, g2⟩ := rep i H2 S2 x2 q2 (hk S2 sx)
 by_cases hl : i < I.items.length
 ·have hd : I.items[i]? = some I.items[i] := by simp [hl]
  obtain ⟨go, yl⟩ := g1 _ hd
  refine .inr ⟨go, fun x H3 hy => ?_⟩
  obtain ⟨x3, p3, d3⟩ := yl x H3 hy
  refine ⟨_, _, S2, d3, q1.ext x3, p3, hg _ _ S2 _ _ (fun δ4 S4 z4 σ4 H4 a1 a2 a3 => ?_) (wstep i _ S2 acc hd sx hS2 hW)⟩
  obtain ⟨hle, z4⟩ := z4
  refine upT.go hc a1 a3 z4 fun b S5 H5 z5 x5 p5 => zcT (fun z5 => ?_) (fun z5 => ?_) z5
  ·refine upE.go he (a1.ext x5) p5 z5 fun y S6 v H6 z6 q6 x6 p6 => ?_
   obtain ⟨s6, hW6⟩ := z6
   obtain ⟨ys, h6, r6⟩ := p6 _ _ (s6 _ _ hS2)
   have e6 : Ext H6 (upd H6 D (.lst (ys ++ [v]))) := .lst h6 _
   have hlen2 : ys.length <= i := by rw [<- r6.length]; exact hacc
   refine ⟨ys, I.items.length - (i + 1), h6, by omega, by omega, rfl, hl, ((((x2.trans x3).trans a2).trans x5).trans x6).trans e6, hle.rep ((a1.ext (x5.trans x6)).ext e6), ups S6 D (.lst (acc ++ [y])), acc ++ [y], ?_, fun b o hb => ?_, zc0, by simp; omega, ?_⟩
   ·exact p6.ups e6 ⟨_, zaA, zak.ext e6 _ (r6.snoc q6)⟩
   ·rw [zeu (by intro q; subst q; rw [hS1] at hb; cases hb)]
    exact s6 _ _ (sx _ _ hb)
   ·exact wm _ S6 _ _ (fun b o hb q => by rw [zeu hb]; exact q) hW6
  ·obtain ⟨s5, hW5⟩ := z5
   exact ⟨I.items.length - (i + 1), by omega, rfl, hl, ((x2.trans x3).trans a2).trans x5, hle.rep (a1.ext x5), S5, acc, p5, sx.trans s5, s5 _ _ hS2, by omega, hW5⟩
 ·have e : i = I.items.length := by omega
  subst e
  exact .inl ⟨g2 (Nat.le_refl _), wfin S2 acc sx hS2 hW _ H2 (by simp only [zau]) (e1.trans x2) q2⟩
theorem zeK (Sc : zit X N' pick scope) (hc : X.calm = true) (hi : PDI X tg iter ti) (hg : ∀ cl C s H fp, PDG (cxC X N' scope cl C s H fp) tg g) (hf : ∀ cl C s H fp, PDF (cxC X N' scope cl C s H fp) ifs tcc) (he : ∀ cl C s H fp, PD (cxC X N' scope cl C s H fp) elt te)
  (hs : ∀ x, foldedSetIterable iter X.env x = pure x := by intro _; rfl) :
  PD X (.ListComp elt [⟨tg, iter, ifs, 0⟩] scope pos) (dLW pick ti g tcc te) :=
 ⟨dLW.mo hi.mo, fun pins s σ H Q I hu => zrm (g := upG X.K g) (tc := upT X.K tcc) (te := upE X.K te) Sc hc hi.pi (fun cl C s H fp => (hg cl C s H fp).pg) (fun cl C s H fp => (hf cl C s H fp).pf) (fun cl C s H fp => (he cl C s H fp).pe) hs pins s σ H Q I (zsq hi.mo (hg [] 0 s H []).mo (hf [] 0 s H []).mo (he [] 0 s H []).mo hu)⟩
end
end
section
variable {P : Program} {w : World} {K : PySem.W.Frag} {mg : Str -> Option Value} {base : Heap} {f : Addr} {fd : FuncData}
theorem fn5 {R : Rk} [Lo R] {x : Str} {st : Stmt} {N ps : List Str} {k n : Nat} {g : Sm} (F : Fun K x x st f fd) (Sc : zaM N ps (zai st)) (hn : n = ps.length)
  (hbody : ∀ (cdv : Value) (A : Around) (outer : List Env) (s : Shared) (H : Hp) (E : XK), ze2 k (A.deeper (envOfC x (zai st) s.heap.objs.size f cdv)) ->
   ∃ t, zl6 (zmS CX0 P w K mg base N x (zai st) f cdv A outer s H E).nox (zaE st) t /\ OkS R g t) : zkm P w K mg base CX0 (k + 1) f fd ps (upP K (spF R (zef N n g))) :=
 zqD F Sc (fun ds S Q h => by rw [h.len, hn]) fun cdv A outer s H E hr => by
  obtain ⟨t, h1, h2⟩ := hbody cdv A outer s H E hr
  exact ⟨t, h1, fun ds S Q h => zoR h2 h⟩
theorem fd5 {R : Rk} [Lo R] {x : Str} {st : Stmt} {N ps : List Str} {k n : Nat} {g : Sm} (F : Fun K x x st f fd) (hm : mg x = some (.ref f)) (Sc : zaM N ps (zai st)) (hn : n = ps.length)
  (hb : ∀ (kV doc pm : Value) (an : Option Addr) (cdv ct : Value) (us : List Value), us.length = ps.length -> bindArgs (PySem.W.fnOf x x (zaL st) (zaE st) (zai st) .none kV doc pm an cdv ct) ⟨us, []⟩ = pure (ps.zip us))
  (hbody : ∀ (cdv : Value) (A : Around) (outer : List Env) (s : Shared) (H : Hp) (E : XK), ze2 k (A.deeper (envOfC x (zai st) s.heap.objs.size f cdv)) ->
   ∃ t, zl6 (zmS CX0 P w K mg base N x (zai st) f cdv A outer s H E).nox (zaE st) t /\ OkS R g t) : FD P w K mg base x (k + 1) ps (spF R (zef N n g)) :=
 ⟨⟨f, fd, fn5 F Sc hn hbody, hm, F.kp, F.binds hb⟩, spF.mo⟩
theorem zsH {R : Rk} [Sr R] {F : List T -> Option T} (hF : ∀ ns : List Int, ns.length <= 63 -> F [.lst (ns.map T.int)] = some (.bl true)) {H : Hp} {a : Addr} {ns : List Int} {E : XK} (hO : zq2 H) (hS : SqL K H a (ns.map V.int)) (hl : ns.length <= 63) : upP K (spF R F) [.ref a] H (fun v _ => v = .bl true) E := by
 have hFz : SqF K H a (ns.map V.int) := by
  rcases hS with (h | h) | h
  ·rcases hO a with z | ⟨o, xs, z⟩
   ·rw [h] at z; cases z
   ·rw [h] at z; cases z
  ·exact .inl h
  ·exact .inr h
 refine ⟨[.rol (ns.map D.int)], fun _ => none, .cons ?_ .nil, (fun a o z => nomatch z), fun _ => False, [.lst (ns.map T.int)], .bl true, nofun, .cons ?_ .nil, hF ns hl, fun d S' s r v H' rv _ _ => ?_⟩
 ·simp only [zau]
  exact ⟨a, _, rfl, hFz, zak.ziM ns⟩
 ·simp only [Sn]
  exact ⟨_, .inl rfl, zcw.mpr rfl⟩
 ·have := Sr.sn r
  simp only [Sn] at this
  subst this
  simpa only [zau] using rv
end
end L5
namespace ST
open PySem PySem.SetTable
def Ris (xs : List Nat) : Prop := xs.Pairwise (· < ·)
theorem ziQ {xs : Array Nat} {m d : Nat} (h : m < xs.size) : xs.getD m d = xs[m] := by simp [Array.getD, h]
theorem zhk (xs : Array Nat) (j : Nat) (hr : Ris xs.toList) : ∀ (f lo hi : Nat), hi - lo <= f -> lo <= hi -> hi <= xs.size -> (∀ i (h : i < xs.size), i < lo -> xs[i] < j) -> (∀ i (h : i < xs.size), hi <= i -> j <= xs[i]) ->
  below.go xs j f lo hi <= xs.size /\ (∀ i (h : i < xs.size), i < below.go xs j f lo hi -> xs[i] < j) /\ ∀ i (h : i < xs.size), below.go xs j f lo hi <= i -> j <= xs[i]
 | 0, lo, hi, h1, h2, h3, h4, h5 => by
  unfold below.go
  have : lo = hi := by omega
  subst this
  exact ⟨h3, h4, h5⟩
 | f + 1, lo, hi, h1, h2, h3, h4, h5 => by
  unfold below.go
  have ris : ∀ i k (hi : i < xs.size) (hk : k < xs.size), i <= k -> xs[i] <= xs[k] := fun i k hi hk hik => by
   rcases Nat.lt_or_ge i k with q | q
   ·have r := List.pairwise_iff_getElem.mp hr i k (by simpa using hi) (by simpa using hk) q
    rw [Array.getElem_toList, Array.getElem_toList] at r
    exact Nat.le_of_lt r
   ·have : i = k := by omega
    subst this; exact Nat.le_refl _
  by_cases hl : lo < hi
  ·rw [if_pos hl]
   dsimp only
   have hm : (lo + hi) / 2 < xs.size := by omega
   rw [ziQ hm]
   by_cases c : xs[(lo + hi) / 2] < j
   ·rw [if_pos c]
    refine zhk xs j hr f _ hi (by omega) (by omega) h3 (fun i hi' hlt => ?_) h5
    have := ris i ((lo + hi) / 2) hi' hm (by omega)
    omega
   ·rw [if_neg c]
    refine zhk xs j hr f lo _ (by omega) (by omega) (by omega) h4 (fun i hi' hge => ?_)
    have := ris ((lo + hi) / 2) i hm hi' hge
    omega
  ·rw [if_neg hl]
   have : lo = hi := by omega
   subst this
   exact ⟨h3, h4, h5⟩
theorem zd9 {xs : Array Nat} {j : Nat} (hr : Ris xs.toList) : below xs j <= xs.size /\ (∀ i (h : i < xs.size), i < below xs j -> xs[i] < j) /\ ∀ i (h : i < xs.size), below xs j <= i -> j <= xs[i] :=
 zhk xs j hr xs.size 0 xs.size (by omega) (by omega) (Nat.le_refl _) (fun i h q => by omega) (fun i h q => by omega)
theorem below_at {xs : Array Nat} {j i : Nat} (hr : Ris xs.toList) (h : xs[i]? = some j) : below xs j = i := by
 obtain ⟨h1, h2, h3⟩ := zd9 (j := j) hr
 obtain ⟨hi, e⟩ := Array.getElem?_eq_some_iff.mp h
 have a : ¬ i < below xs j := fun q => by have := h2 i hi q; omega
 have b : ¬ below xs j < i := fun q => by
  have := h3 (below xs j) (by omega) (Nat.le_refl _)
  have r := List.pairwise_iff_getElem.mp hr (below xs j) i (by simp; omega) (by simpa using hi) q
  simp at r
  omega
 omega
theorem zlO {xs : Array Nat} {j : Nat} (hr : Ris xs.toList) : (xs[below xs j]? = some j) ↔ j ∈ xs.toList := by
 constructor
 ·intro h
  obtain ⟨hi, e⟩ := Array.getElem?_eq_some_iff.mp h
  rw [<- e]; simp
 ·intro h
  obtain ⟨i, hi, e⟩ := List.mem_iff_getElem.mp h
  have hx : xs[i]? = some j := by
   simp at hi
   simp [hi] at e ⊢; exact e
  rw [below_at hr hx]; exact hx
noncomputable def adv (M : Nat) (p : Probe) : Probe :=
 if p.more > 0 then { p with j := p.j + 1, more := p.more - 1 } else
 let (i, perturb) := leap M p.i p.perturb
 { p with j := i, more := runEnd M i - i, i, perturb }
theorem zlS (t : SetTable) (p : Probe) : t.advance p = adv t.mask p := rfl
noncomputable def zo6 (M i perturb : Nat) : Probe := { j := i, more := runEnd M i - i, i := i, perturb := perturb, dummy := none }
noncomputable def way (M : Nat) (h : Int) : Nat -> Probe
 | 0 => zo6 M (bits h % (M + 1)) (bits h)
 | k + 1 => adv M (way M h k)
theorem zlT (M : Nat) (p : Probe) (h : p.dummy = none) : (adv M p).dummy = none := by
 unfold adv
 split
 ·exact h
 ·exact h
theorem zfK (M : Nat) (h : Int) : ∀ k, (way M h k).dummy = none
 | 0 => rfl
 | k + 1 => zlT M _ (zfK M h k)
noncomputable def za5 (M : Nat) (h : Int) : Nat -> Nat × Nat
 | 0 => (bits h % (M + 1), bits h)
 | n + 1 => leap M (za5 M h n).1 (za5 M h n).2
theorem zgO (M i pt : Nat) (h : Int) (k : Nat) (hk : way M h k = zo6 M i pt) : ∀ m, m <= runEnd M i - i -> way M h (k + m) = { j := i + m, more := runEnd M i - i - m, i := i, perturb := pt, dummy := none }
 | 0, _ => by rw [Nat.add_zero, hk]; rfl
 | m + 1, hm => by
  have ih := zgO M i pt h k hk m (by omega)
  show adv M (way M h (k + m)) = _
  rw [ih]
  unfold adv
  rw [if_pos (by show runEnd M i - i - m > 0; omega)]
  simp only [Probe.mk.injEq]
  exact ⟨by omega, by omega, trivial, trivial, trivial⟩
theorem zkH (M i : Nat) : runEnd M i - i <= 9 := by unfold runEnd; split <;> omega
theorem zi6 (M : Nat) (h : Int) (n k : Nat) (hk : way M h k = zo6 M (za5 M h n).1 (za5 M h n).2) : way M h (k + (runEnd M (za5 M h n).1 - (za5 M h n).1) + 1) = zo6 M (za5 M h (n + 1)).1 (za5 M h (n + 1)).2 := by
 have := zgO M _ _ h k hk _ (Nat.le_refl _)
 show adv M (way M h (k + _)) = _
 rw [this]
 unfold adv
 rw [if_neg (by show ¬ _ - _ - (_ - _) > 0; omega)]
 rfl
theorem znh (M : Nat) (h : Int) : ∀ n, ∃ k, k <= 10 * n /\ way M h k = zo6 M (za5 M h n).1 (za5 M h n).2
 | 0 => ⟨0, by omega, rfl⟩
 | n + 1 => by
  obtain ⟨k, h1, h2⟩ := znh M h n
  have := zkH M (za5 M h n).1
  exact ⟨_, by omega, zi6 M h n k h2⟩
theorem zoT (h : Int) : bits h < 2 ^ 64 := by
 unfold bits
 have h1 := Int.emod_nonneg h (show (2 ^ 64 : Int) ≠ 0 by decide)
 have h2 := Int.emod_lt_of_pos h (show (0 : Int) < 2 ^ 64 by decide)
 omega
theorem zeE (M : Nat) (h : Int) : ∀ n, (za5 M h n).2 * 32 ^ n <= bits h
 | 0 => by simp [za5]
 | n + 1 => by
  have ih := zeE M h n
  show ((za5 M h n).2 / 32) * 32 ^ (n + 1) <= _
  have : (za5 M h n).2 / 32 * 32 <= (za5 M h n).2 := Nat.div_mul_le_self _ _
  calc (za5 M h n).2 / 32 * 32 ^ (n + 1) = ((za5 M h n).2 / 32 * 32) * 32 ^ n := by rw [Nat.pow_succ, Nat.mul_comm (32 ^ n) 32, Nat.mul_assoc]
   _ <= (za5 M h n).2 * 32 ^ n := Nat.mul_le_mul_right _ this
   _ <= _ := ih
theorem zhN (M : Nat) (h : Int) (n : Nat) (hn : 13 <= n) : (za5 M h n).2 = 0 := by
 rcases Nat.eq_zero_or_pos (za5 M h n).2 with q | q
 ·exact q
 ·have h1 := zeE M h n
  have h2 := zoT h
  have h3 : 32 ^ 13 <= 32 ^ n := Nat.pow_le_pow_right (by decide) hn
  have h4 : 1 * 32 ^ n <= (za5 M h n).2 * 32 ^ n := Nat.mul_le_mul_right _ q
  have h5 : (2 : Nat) ^ 64 < 32 ^ 13 := by decide
  omega
noncomputable def orb (M : Nat) (i : Nat) : Nat -> Nat
 | 0 => i
 | n + 1 => (orb M i n * 5 + 1) % (M + 1)
theorem zh4 (M : Nat) (h : Int) : ∀ n, (za5 M h (13 + n)).1 = orb M (za5 M h 13).1 n
 | 0 => rfl
 | n + 1 => by
  have ih := zh4 M h n
  have hz := zhN M h (13 + n) (by omega)
  show ((za5 M h (13 + n)).1 * 5 + 1 + (za5 M h (13 + n)).2 / 32) % (M + 1) = _
  rw [hz, ih]
  rfl
theorem zfV (M i : Nat) : ∀ a b, orb M i (a + b) = orb M (orb M i a) b
 | a, 0 => rfl
 | a, b + 1 => by
  show (orb M i (a + b) * 5 + 1) % (M + 1) = _
  rw [zfV M i a b]; rfl
noncomputable def zp0 (M : Nat) : Nat -> Nat -> List Nat
 | 0, _ => []
 | n + 1, i => i :: zp0 M n ((i * 5 + 1) % (M + 1))
theorem zgX (M : Nat) : ∀ n i x, x ∈ zp0 M n i -> ∃ k, k < n /\ orb M i k = x
 | 0, i, x, h => by cases h
 | n + 1, i, x, h => by
  rcases List.mem_cons.mp h with e | e
  ·exact ⟨0, by omega, e.symm⟩
  ·obtain ⟨k, h1, h2⟩ := zgX M n _ x e
   exact ⟨k + 1, by omega, by rw [Nat.add_comm, zfV]; exact h2⟩
def Mok (M : Nat) : Prop := M = 7 \/ M = 31 \/ M = 127
theorem zoj (M : Nat) (hM : Mok M) : (∀ e, e <= M -> e ∈ zp0 M (M + 1) 0) /\ orb M 0 (M + 1) = 0 := by
 have key : ∀ M, ((List.range (M + 1)).all fun e => (zp0 M (M + 1) 0).contains e) = true -> ∀ e, e <= M -> e ∈ zp0 M (M + 1) 0 := fun M h e he => by
  have := List.all_eq_true.mp h e (List.mem_range.mpr (by omega))
  simpa using this
 rcases hM with rfl | rfl | rfl
 ·exact ⟨key 7 (by decide +kernel), by decide +kernel⟩
 ·exact ⟨key 31 (by decide +kernel), by decide +kernel⟩
 ·exact ⟨key 127 (by decide +kernel), by decide +kernel⟩
theorem zk1 (M : Nat) (hM : Mok M) (i e : Nat) (hi : i <= M) (he : e <= M) : ∃ n, n <= M /\ orb M i n = e := by
 obtain ⟨h1, h2⟩ := zoj M hM
 obtain ⟨a, a1, a2⟩ := zgX M _ _ _ (h1 i hi)
 obtain ⟨b, b1, b2⟩ := zgX M _ _ _ (h1 e he)
 rcases Nat.lt_or_ge b a with q | q
 ·refine ⟨M + 1 + b - a, by omega, ?_⟩
  rw [<- a2, <- zfV, show a + (M + 1 + b - a) = (M + 1) + b by omega, zfV, h2, b2]
 ·refine ⟨b - a, by omega, ?_⟩
  rw [<- a2, <- zfV, show a + (b - a) = b by omega, b2]
theorem zmD (M : Nat) (h : Int) : ∀ n, (za5 M h n).1 <= M
 | 0 => by have := Nat.mod_lt (bits h) (show 0 < M + 1 by omega); show bits h % (M + 1) <= M; omega
 | n + 1 => by
  have := Nat.mod_lt ((za5 M h n).1 * 5 + 1 + (za5 M h n).2 / 32) (show 0 < M + 1 by omega)
  show (_ % (M + 1) : Nat) <= M
  omega
theorem zf3 (M : Nat) (hM : Mok M) (h : Int) (e : Nat) (he : e <= M) : ∃ n, n < M + 14 /\ (za5 M h n).1 = e := by
 obtain ⟨n, h1, h2⟩ := zk1 M hM (za5 M h 13).1 e (zmD M h 13) he
 exact ⟨13 + n, by omega, by rw [zh4, h2]⟩
theorem zkq (M : Nat) (hM : Mok M) (h : Int) (e : Nat) (he : e <= M) : ∃ k, k < 10 * (M + 15) /\ (way M h k).j = e := by
 obtain ⟨n, h1, h2⟩ := zf3 M hM h e he
 obtain ⟨k, k1, k2⟩ := znh M h n
 exact ⟨k, by omega, by rw [k2]; exact h2⟩
end ST
namespace ST
open PySem PySem.SetTable
theorem zkp (M : Nat) (h : Int) : ∀ k, (way M h k).j + (way M h k).more <= M /\ (way M h k).i <= M
 | 0 => by
  have h1 : bits h % (M + 1) <= M := by have := Nat.mod_lt (bits h) (show 0 < M + 1 by omega); omega
  refine ⟨?_, h1⟩
  show bits h % (M + 1) + (runEnd M (bits h % (M + 1)) - bits h % (M + 1)) <= M
  unfold runEnd; split <;> omega
 | k + 1 => by
  obtain ⟨h1, h2⟩ := zkp M h k
  show (adv M (way M h k)).j + (adv M (way M h k)).more <= M /\ (adv M (way M h k)).i <= M
  unfold adv
  split
  ·rename_i c
   exact ⟨by show (way M h k).j + 1 + ((way M h k).more - 1) <= M; omega, h2⟩
  ·have h3 : ((way M h k).i * 5 + 1 + (way M h k).perturb / 32) % (M + 1) <= M := by have := Nat.mod_lt ((way M h k).i * 5 + 1 + (way M h k).perturb / 32) (show 0 < M + 1 by omega); omega
   refine ⟨?_, h3⟩
   show _ % (M + 1) + (runEnd M (_ % (M + 1)) - _ % (M + 1)) <= M
   unfold runEnd; split <;> omega
theorem znM (M : Nat) (h : Int) (k : Nat) : (way M h k).j <= M := by have := (zkp M h k).1; omega
structure Tab (t : SetTable) (hs : List Int) : Prop where
 mask : Mok t.mask
 dum : t.dummies = #[]
 len : t.place.size = hs.length
 ris : Ris t.place.toList
 top : ∀ j ∈ t.place.toList, j <= t.mask
 rch : ∀ (i : Nat) h j, hs[i]? = some h -> t.place[i]? = some j -> ∃ k, (way t.mask h k).j = j /\ ∀ k' < k, (way t.mask h k').j ∈ t.place.toList
theorem Tab.live {t : SetTable} {hs : List Int} (T : Tab t hs) {i j : Nat} (h : t.place[i]? = some j) : t.slot j = .live i := by
 unfold SetTable.slot
 dsimp only
 rw [below_at T.ris h, if_pos (by rw [h]; simp)]
theorem Tab.empty {t : SetTable} {hs : List Int} (T : Tab t hs) {j : Nat} (h : j ∉ t.place.toList) : t.slot j = .empty := by
 unfold SetTable.slot
 dsimp only
 have n1 : ¬ (t.place[below t.place j]? == some j) = true := fun q => h ((zlO T.ris).mp (by simpa using q))
 rw [if_neg n1, if_neg (by rw [T.dum]; simp [has])]
theorem Tab.at {t : SetTable} {hs : List Int} (T : Tab t hs) {j : Nat} (h : j ∈ t.place.toList) : ∃ (i : Nat) (g : Int), t.place[i]? = some j /\ hs[i]? = some g := by
 obtain ⟨i, hi, e⟩ := List.mem_iff_getElem.mp h
 have hi' : i < t.place.size := by simpa using hi
 refine ⟨i, hs[i]'(by rw [<- T.len]; exact hi'), ?_, by simp⟩
 rw [Array.getElem?_eq_getElem hi']
 rw [Array.getElem_toList] at e
 rw [e]
theorem zlv {t : SetTable} {hs : List Int} (T : Tab t hs) {hashAt : Nat -> Int} (hA : ∀ (i : Nat) g, hs[i]? = some g -> hashAt i = g) (h : Int) : ∀ (f k : Nat), (∃ e, k <= e /\ e < k + f /\ (way t.mask h e).j ∉ t.place.toList) ->
  ∃ k1, k <= k1 /\ (∀ m, k <= m -> m < k1 -> ∃ (i : Nat) (g : Int), t.place[i]? = some (way t.mask h m).j /\ hs[i]? = some g /\ g ≠ h) /\
   ((way t.mask h k1).j ∉ t.place.toList /\ probe.go t hashAt h f (way t.mask h k) = some (.empty (way t.mask h k1).j none) \/
    ∃ i, t.place[i]? = some (way t.mask h k1).j /\ hs[i]? = some h /\ probe.go t hashAt h f (way t.mask h k) = some (.candidate (way t.mask h k1).j i (way t.mask h (k1 + 1))))
 | 0, k, ⟨e, h1, h2, _⟩ => by omega
 | f + 1, k, ⟨e, h1, h2, h3⟩ => by
  by_cases hm : (way t.mask h k).j ∈ t.place.toList
  ·obtain ⟨i, g, p1, p2⟩ := T.at hm
   by_cases hg : g = h
   ·refine ⟨k, Nat.le_refl _, fun m a b => by omega, .inr ⟨i, p1, by rw [<- hg]; exact p2, ?_⟩⟩
    unfold probe.go
    rw [T.live p1]
    dsimp only
    rw [hA i g p2, if_pos (by simp [hg]), zlS]
    rfl
   ·have hne : e ≠ k := fun q => by subst q; exact h3 hm
    obtain ⟨k1, q1, q2, q3⟩ := zlv T hA h f (k + 1) ⟨e, by omega, by omega, h3⟩
    have eq : probe.go t hashAt h (f + 1) (way t.mask h k) = probe.go t hashAt h f (way t.mask h (k + 1)) := by
     conv => lhs; unfold probe.go
     rw [T.live p1]
     dsimp only
     rw [hA i g p2, if_neg (by simp [hg]), zlS]
     rfl
    rw [eq]
    refine ⟨k1, by omega, fun m a b => ?_, q3⟩
    rcases Nat.eq_or_lt_of_le a with w | w
    ·subst w; exact ⟨i, g, p1, p2, hg⟩
    ·exact q2 m w b
  ·refine ⟨k, Nat.le_refl _, fun m a b => by omega, .inl ⟨hm, ?_⟩⟩
   unfold probe.go
   rw [T.empty hm, zfK]
theorem zhZ {xs ys : List Nat} (hx : xs.Nodup) (h : ∀ x ∈ xs, x ∈ ys) : xs.length <= ys.length := by
 induction xs generalizing ys with
 | nil => simp
 | cons x xs ih =>
  have h1 := List.nodup_cons.mp hx
  have hxy := h x List.mem_cons_self
  have := ih h1.2 (ys := ys.erase x) fun z hz => by
   have hne : z ≠ x := fun e => h1.1 (e ▸ hz)
   exact (List.mem_erase_of_ne hne).mpr (h z (List.mem_cons_of_mem _ hz))
  rw [List.length_erase_of_mem hxy] at this
  have hp := List.length_pos_of_mem hxy
  simp only [List.length_cons]
  omega
theorem least {P : Nat -> Prop} (k : Nat) (h : P k) : ∃ m, m <= k /\ P m /\ ∀ m' < m, ¬ P m' := by
 induction k using Nat.strongRecOn with
 | ind k ih =>
  rcases Classical.em (∃ m', m' < k /\ P m') with ⟨m', h1, h2⟩ | q
  ·obtain ⟨m, g1, g2⟩ := ih m' h1 h2
   exact ⟨m, by omega, g2⟩
  ·exact ⟨k, Nat.le_refl _, h, fun m' hm hp => q ⟨m', hm, hp⟩⟩
theorem zly {xs : List Nat} {M : Nat} (h : xs.length <= M) : ∃ e, e <= M /\ e ∉ xs := by
 rcases Classical.em (∃ e, e <= M /\ e ∉ xs) with q | q
 ·exact q
 ·have := zhZ (xs := List.range (M + 1)) (ys := xs) List.nodup_range fun e he => by
   have := List.mem_range.mp he
   rcases Classical.em (e ∈ xs) with w | w
   ·exact w
   ·exact absurd ⟨e, by omega, w⟩ q
  simp at this
  omega
def zrS (t : SetTable) (h : Int) (j : Nat) : Prop := j ∉ t.place.toList /\ ∃ k, (way t.mask h k).j = j /\ ∀ k' < k, (way t.mask h k').j ∈ t.place.toList
theorem Tab.first {t : SetTable} {hs : List Int} (T : Tab t hs) (hl : hs.length <= t.mask) (h : Int) : ∃ K, K < 10 * (t.mask + 15) /\ (way t.mask h K).j ∉ t.place.toList /\ ∀ k' < K, (way t.mask h k').j ∈ t.place.toList := by
 obtain ⟨e, e1, e2⟩ := zly (xs := t.place.toList) (M := t.mask) (by rw [Array.length_toList, T.len]; exact hl)
 obtain ⟨k, k1, k2⟩ := zkq t.mask T.mask h e e1
 obtain ⟨K, q1, q2, q3⟩ := least (P := fun n => (way t.mask h n).j ∉ t.place.toList) k (by rw [k2]; exact e2)
 exact ⟨K, by omega, q2, fun k' hk => Classical.not_not.mp (q3 k' hk)⟩
theorem znW {xs : List Nat} {j p : Nat} (h : Ris xs) (h1 : ∀ x ∈ xs.take p, x < j) (h2 : ∀ x ∈ xs.drop p, j < x) : Ris (xs.take p ++ j :: xs.drop p) := by
 refine List.pairwise_append.mpr ⟨h.sublist (List.take_sublist _ _), List.pairwise_cons.mpr ⟨h2, h.sublist (List.drop_sublist _ _)⟩, fun a ha b hb => ?_⟩
 rcases List.mem_cons.mp hb with e | e
 ·subst e; exact h1 a ha
 ·have := h1 a ha; have := h2 b e; omega
theorem zlq {α : Type} {xs : List α} {p i : Nat} {x y : α} (hp : p <= xs.length) (h : (xs.take p ++ x :: xs.drop p)[i]? = some y) : (i = p /\ y = x) \/ (i < p /\ xs[i]? = some y) \/ (p < i /\ xs[i - 1]? = some y) := by
 have hl : (xs.take p).length = p := by rw [List.length_take]; omega
 rcases Nat.lt_trichotomy i p with q | q | q
 ·rw [List.getElem?_append_left (by omega), List.getElem?_take, if_pos q] at h
  exact .inr (.inl ⟨q, h⟩)
 ·subst q
  rw [List.getElem?_append_right (by omega), hl] at h
  simp at h
  exact .inl ⟨rfl, h.symm⟩
 ·rw [List.getElem?_append_right (by omega), hl] at h
  obtain ⟨d, hd⟩ : ∃ d, i - p = d + 1 := ⟨i - p - 1, by omega⟩
  rw [hd] at h
  simp only [List.getElem?_cons_succ, List.getElem?_drop] at h
  refine .inr (.inr ⟨q, ?_⟩)
  rw [show i - 1 = p + d by omega]; exact h
theorem Tab.put {t : SetTable} {hs : List Int} (T : Tab t hs) {h : Int} {j : Nat} (F : zrS t h j) :
  (t.put j).2 <= hs.length /\ (t.put j).1 = { t with place := insertAt t.place (t.put j).2 j } /\ Tab (t.put j).1 (hs.take (t.put j).2 ++ h :: hs.drop (t.put j).2) := by
 obtain ⟨b1, b2, b3⟩ := zd9 (xs := t.place) (j := j) T.ris
 obtain ⟨fn, K, k1, k2⟩ := F
 have e2 : (t.put j).2 = below t.place j := rfl
 have e1 : (t.put j).1 = { t with place := insertAt t.place (t.put j).2 j } := by
  show ({ t with place := insertAt t.place (below t.place j) j, dummies := _ } : SetTable) = _
  rw [if_neg (by rw [T.dum]; simp [has]), e2]
 have pl : (insertAt t.place (below t.place j) j).toList = t.place.toList.take (below t.place j) ++ j :: t.place.toList.drop (below t.place j) := toList_insertAt _ _ _
 have old : ∀ x ∈ t.place.toList, x ∈ (insertAt t.place (below t.place j) j).toList := fun x hx => by
  rw [pl]
  have := List.take_append_drop (below t.place j) t.place.toList
  rw [<- this] at hx
  rcases List.mem_append.mp hx with q | q
  ·exact List.mem_append_left _ q
  ·exact List.mem_append_right _ (List.mem_cons_of_mem _ q)
 rw [e2] at e1 ⊢
 refine ⟨by rw [<- T.len]; exact b1, e1, ?_⟩
 rw [e1]
 refine ⟨T.mask, T.dum, ?_, ?_, ?_, ?_⟩
 ·show (insertAt t.place (below t.place j) j).size = _
  rw [<- Array.length_toList, pl]
  simp [T.len]
 ·show Ris (insertAt t.place (below t.place j) j).toList
  rw [pl]
  refine znW T.ris (fun x hx => ?_) (fun x hx => ?_)
  ·obtain ⟨i, hi, e⟩ := List.mem_iff_getElem.mp hx
   rw [List.length_take] at hi
   rw [List.getElem_take, Array.getElem_toList] at e
   rw [<- e]; exact b2 i (by simp at hi; omega) (by omega)
  ·obtain ⟨i, hi, e⟩ := List.mem_iff_getElem.mp hx
   rw [List.length_drop] at hi
   rw [List.getElem_drop, Array.getElem_toList] at e
   have h3 := b3 (below t.place j + i) (by simp at hi; omega) (by omega)
   have hm : x ∈ t.place.toList := List.mem_of_mem_drop hx
   have hne : x ≠ j := fun q => fn (q ▸ hm)
   omega
 ·intro x hx
  show x <= t.mask
  have hx : x ∈ (insertAt t.place (below t.place j) j).toList := hx
  rw [pl] at hx
  rcases List.mem_append.mp hx with q | q
  ·exact T.top x (List.mem_of_mem_take q)
  ·rcases List.mem_cons.mp q with e | e
   ·subst e; rw [<- k1]; exact znM _ _ _
   ·exact T.top x (List.mem_of_mem_drop e)
 ·intro i g x hg hx
  show ∃ k, (way t.mask g k).j = x /\ ∀ k' < k, (way t.mask g k').j ∈ (insertAt t.place (below t.place j) j).toList
  have hx : (insertAt t.place (below t.place j) j)[i]? = some x := hx
  rw [<- Array.getElem?_toList, pl] at hx
  have hpl : below t.place j <= t.place.toList.length := by simpa using b1
  have hpl' : below t.place j <= hs.length := by rw [<- T.len]; exact b1
  rcases zlq hpl hx with ⟨c1, c2⟩ | ⟨c1, c2⟩ | ⟨c1, c2⟩ <;> rcases zlq hpl' hg with ⟨d1, d2⟩ | ⟨d1, d2⟩ | ⟨d1, d2⟩ <;> first
   | omega
   | (subst c2 d2; exact ⟨K, k1, fun k' hk => old _ (k2 k' hk)⟩)
   | (obtain ⟨k, g1, g2⟩ := T.rch _ g x d2 (by rw [<- Array.getElem?_toList]; exact c2)
      exact ⟨k, g1, fun k' hk => old _ (g2 k' hk)⟩)
end ST
namespace ST
open PySem PySem.SetTable
def Occ (owner : Array (Option Nat)) (j : Nat) : Prop := ∃ k, owner[j]? = some (some k)
theorem zj1 {P : Nat -> Bool} {n k : Nat} (h : (List.range n).find? P = some k) : k < n /\ P k = true /\ ∀ k' < k, P k' = false := by
 obtain ⟨h1, as, bs, h2, h3⟩ := List.find?_eq_some_iff_append.mp h
 have hlen : as.length = k := by
  have e : (List.range n)[as.length]? = some k := by rw [h2]; simp
  have := (List.getElem?_eq_some_iff.mp e)
  obtain ⟨q1, q2⟩ := this
  rw [List.getElem_range] at q2
  exact q2
 have hk : k < n := by
  have : k ∈ List.range n := by rw [h2]; simp
  exact List.mem_range.mp this
 refine ⟨hk, h1, fun k' hk' => ?_⟩
 have : k' ∈ as := by
  have e : (List.range n)[k']? = some k' := List.getElem?_range (by omega)
  rw [h2, List.getElem?_append_left (by omega)] at e
  exact List.mem_of_getElem? e
 have := h3 k' this
 simpa using this
theorem getD_none {owner : Array (Option Nat)} {j : Nat} (h : ((owner.getD j (some 0)).isNone) = true) : owner[j]? = some none := by
 unfold Array.getD at h
 split at h
 ·rename_i hj
  have e : owner[j] = none := by simpa using h
  rw [Array.getElem?_eq_getElem hj, e]
 ·simp at h
theorem zjl {owner : Array (Option Nat)} {j : Nat} (hj : j < owner.size) (h : ((owner.getD j (some 0)).isNone) = false) : Occ owner j := by
 unfold Array.getD at h
 rw [dif_pos hj] at h
 cases q : owner[j] with
 | none => simp [q] at h
 | some k => exact ⟨k, by rw [Array.getElem?_eq_getElem hj, q]⟩
theorem zh9 (M : Nat) (owner : Array (Option Nat)) (hsz : owner.size = M + 1) (h : Int) : ∀ (fuel n kn : Nat), way M h kn = zo6 M (za5 M h n).1 (za5 M h n).2 -> (∀ q < kn, Occ owner (way M h q).j) ->
  (∃ n', n <= n' /\ n' < n + fuel /\ owner[(za5 M h n').1]? = some none) ->
  ∃ j q, layClean.free M owner fuel (za5 M h n).1 (za5 M h n).2 = some j /\ (way M h q).j = j /\ owner[j]? = some none /\ ∀ q' < q, Occ owner (way M h q').j
 | 0, n, kn, _, _, ⟨n', h1, h2, _⟩ => by omega
 | fuel + 1, n, kn, hk, ho, ⟨n', h1, h2, h3⟩ => by
  have hre : runEnd M (za5 M h n).1 + 1 - (za5 M h n).1 = runEnd M (za5 M h n).1 - (za5 M h n).1 + 1 := by unfold runEnd; split <;> omega
  have hwalk : ∀ m, m <= runEnd M (za5 M h n).1 - (za5 M h n).1 -> (way M h (kn + m)).j = (za5 M h n).1 + m := fun m hm => by rw [zgO M _ _ h kn hk m hm]
  unfold layClean.free
  cases hf : (List.range (runEnd M (za5 M h n).1 + 1 - (za5 M h n).1)).find? (fun k => (owner.getD ((za5 M h n).1 + k) (some 0)).isNone) with
  | some k =>
   obtain ⟨f1, f2, f3⟩ := zj1 hf
   refine ⟨_, kn + k, rfl, hwalk k (by omega), getD_none f2, fun q' hq => ?_⟩
   rcases Nat.lt_or_ge q' kn with w | w
   ·exact ho q' w
   ·have e : (way M h q').j = (za5 M h n).1 + (q' - kn) := by
     have := hwalk (q' - kn) (by omega)
     rwa [show kn + (q' - kn) = q' by omega] at this
    have hle := znM M h q'
    rw [e] at hle ⊢
    exact zjl (by omega) (f3 (q' - kn) (by omega))
  | none =>
   have f3 := List.find?_eq_none.mp hf
   have occ : ∀ m, m <= runEnd M (za5 M h n).1 - (za5 M h n).1 -> Occ owner ((za5 M h n).1 + m) := fun m hm => by
    have hle := znM M h (kn + m)
    rw [hwalk m hm] at hle
    exact zjl (by omega) (Bool.eq_false_iff.mpr (f3 m (List.mem_range.mpr (by omega))))
   have hne : n' ≠ n := fun e => by
    subst e
    obtain ⟨k, hk'⟩ := occ 0 (Nat.zero_le _)
    rw [Nat.add_zero] at hk'
    rw [hk'] at h3; cases h3
   dsimp only
   obtain ⟨j, q, r1, r2⟩ := zh9 M owner hsz h fuel (n + 1) _ (zi6 M h n kn hk) (fun q hq => by
    rcases Nat.lt_or_ge q kn with w | w
    ·exact ho q w
    ·have e := hwalk (q - kn) (by omega)
     rw [show kn + (q - kn) = q by omega] at e
     rw [e]; exact occ _ (by omega)) ⟨n', by omega, by omega, h3⟩
   exact ⟨j, q, r1, r2⟩
structure Lay (M : Nat) (hs : List Int) (owner : Array (Option Nat)) (m : Nat) : Prop where
 size : owner.size = M + 1
 below : ∀ (j k : Nat), owner[j]? = some (some k) -> k < m
 each : ∀ (k : Nat), k < m -> ∃ (j : Nat), owner[j]? = some (some k)
 once : ∀ (i j k : Nat), owner[i]? = some (some k) -> owner[j]? = some (some k) -> i = j
 rch : ∀ (j k : Nat) h, owner[j]? = some (some k) -> hs[k]? = some h -> ∃ q, (way M h q).j = j /\ ∀ q' < q, Occ owner (way M h q').j
theorem Lay.none {M : Nat} (hM : Mok M) {hs : List Int} {owner : Array (Option Nat)} {m : Nat} (L : Lay M hs owner m) (hm : m <= M) : ∃ (e : Nat), e <= M /\ owner[e]? = some Option.none := by
 rcases Classical.em (∃ (e : Nat), e <= M /\ owner[e]? = some Option.none) with q | q
 ·exact q
 ·exfalso
  have hall : ∀ (e : Nat), e <= M -> ∃ (k : Nat), owner[e]? = some (some k) := fun e he => by
   have hlt : e < owner.size := by rw [L.size]; omega
   cases w : owner[e] with
   | none => exact absurd ⟨e, he, by rw [Array.getElem?_eq_getElem hlt, w]⟩ q
   | some k => exact ⟨k, by rw [Array.getElem?_eq_getElem hlt, w]⟩
  have := zhZ (xs := (List.range (M + 1)).map fun e => ((owner[e]?).getD Option.none).getD 0) (ys := List.range m) (by
   refine List.pairwise_map.mpr (List.Pairwise.imp_of_mem ?_ List.nodup_range)
   intro a b ha hb hne e
   refine hne ?_
   obtain ⟨k, hk⟩ := hall a (by have := List.mem_range.mp ha; omega)
   obtain ⟨k', hk'⟩ := hall b (by have := List.mem_range.mp hb; omega)
   rw [hk, hk'] at e
   simp at e
   subst e
   exact L.once a b k hk hk') (fun x hx => by
   obtain ⟨e, he, rfl⟩ := List.mem_map.mp hx
   obtain ⟨k, hk⟩ := hall e (by have := List.mem_range.mp he; omega)
   rw [hk]
   exact List.mem_range.mpr (L.below e k hk))
  simp at this
  omega
theorem zi5 {α : Type} {xs : Array α} {j i : Nat} {a b : α} (h : (xs.setIfInBounds j a)[i]? = some b) : (i = j /\ b = a) \/ (i ≠ j /\ xs[i]? = some b) := by
 rw [Array.getElem?_setIfInBounds] at h
 by_cases e : j = i
 ·subst e
  rw [if_pos rfl] at h
  split at h
  ·cases h; exact .inl ⟨rfl, rfl⟩
  ·cases h
 ·rw [if_neg e] at h; exact .inr ⟨fun q => e q.symm, h⟩
theorem Lay.step {M : Nat} (hM : Mok M) {hs : List Int} {owner : Array (Option Nat)} {m : Nat} {h : Int} (L : Lay M hs owner m) (hm : m <= M) (hh : hs[m]? = some h) :
  ∃ j, layClean.free M owner (turns M) (bits h % (M + 1)) (bits h) = some j /\ Lay M hs (owner.setIfInBounds j (some m)) (m + 1) := by
 obtain ⟨e, e1, e2⟩ := L.none hM hm
 obtain ⟨n', n1, n2⟩ := zf3 M hM h e e1
 obtain ⟨j, q, r1, r2, r3, r4⟩ := zh9 M owner L.size h (turns M) 0 0 rfl (fun q hq => by omega) ⟨n', by omega, by unfold turns; omega, by rw [n2]; exact e2⟩
 have hj : j < owner.size := (Array.getElem?_eq_some_iff.mp r3).1
 have keep : ∀ x, Occ owner x -> Occ (owner.setIfInBounds j (some m)) x := fun x ⟨k, hk⟩ => by
  have hne : j ≠ x := fun w => by subst w; rw [r3] at hk; cases hk
  exact ⟨k, by rw [Array.getElem?_setIfInBounds, if_neg hne]; exact hk⟩
 have self : (owner.setIfInBounds j (some m))[j]? = some (some m) := by rw [Array.getElem?_setIfInBounds, if_pos rfl, if_pos hj]
 refine ⟨j, r1, ⟨by simp [L.size], fun x k hx => ?_, fun k hk => ?_, fun x y k hx hy => ?_, fun x k g hx hg => ?_⟩⟩
 ·rcases zi5 hx with ⟨_, w⟩ | ⟨_, w⟩
  ·cases w; omega
  ·have := L.below x k w; omega
 ·rcases Nat.lt_or_ge k m with w | w
  ·obtain ⟨x, hx⟩ := L.each k w
   have hne : j ≠ x := fun w => by subst w; rw [r3] at hx; cases hx
   exact ⟨x, by rw [Array.getElem?_setIfInBounds, if_neg hne]; exact hx⟩
  ·have : k = m := by omega
   subst this; exact ⟨j, self⟩
 ·rcases zi5 hx with ⟨w1, w⟩ | ⟨w1, w⟩ <;> rcases zi5 hy with ⟨v1, v⟩ | ⟨v1, v⟩
  ·omega
  ·cases w; have := L.below y _ v; omega
  ·cases v; have := L.below x _ w; omega
  ·exact L.once x y k w v
 ·rcases zi5 hx with ⟨w1, w⟩ | ⟨w1, w⟩
  ·cases w
   rw [hh] at hg; cases hg
   subst w1
   exact ⟨q, r2, fun q' hq => keep _ (r4 q' hq)⟩
  ·obtain ⟨q, g1, g2⟩ := L.rch x k g w hg
   exact ⟨q, g1, fun q' hq => keep _ (g2 q' hq)⟩
theorem zjg {M : Nat} (hM : Mok M) {hs : List Int} (hl : hs.length <= M + 1) : ∀ (rest : List Int) (owner : Array (Option Nat)) (m : Nat), m <= hs.length -> hs.drop m = rest -> Lay M hs owner m ->
  ∃ owner', rest.foldl (fun acc h => do
   let (owner, k) <- acc
   let j <- layClean.free M owner (turns M) (bits h % (M + 1)) (bits h)
   pure (owner.setIfInBounds j (some k), k + 1)) (some (owner, m)) = some (owner', hs.length) /\ Lay M hs owner' hs.length
 | [], owner, m, hl2, hd, L => by
  have hm : hs.length <= m := List.drop_eq_nil_iff.mp hd
  have e : m = hs.length := by omega
  subst e; exact ⟨owner, rfl, L⟩
 | h :: rest, owner, m, hl2, hd, L => by
  have hm : hs[m]? = some h := by
   have := congrArg (fun l => l[0]?) hd
   simpa using this
  have hlt : m < hs.length := (List.getElem?_eq_some_iff.mp hm).1
  obtain ⟨j, j1, j2⟩ := L.step hM (by omega) hm
  have hd' : hs.drop (m + 1) = rest := by
   have := congrArg List.tail hd
   simpa using this
  obtain ⟨o', h1, h2⟩ := zjg hM hl rest _ (m + 1) (by omega) hd' j2
  refine ⟨o', ?_, h2⟩
  rw [List.foldl_cons, <- h1]
  show _ = _
  congr 1
  show ((layClean.free M owner (turns M) (bits h % (M + 1)) (bits h)).bind fun j => some (owner.setIfInBounds j (some m), m + 1)) = _
  rw [j1]; rfl
theorem zle (M : Nat) (hs : List Int) : Lay M hs (Array.replicate (M + 1) Option.none) 0 := by
 have no : ∀ (j k : Nat), (Array.replicate (M + 1) (Option.none : Option Nat))[j]? ≠ some (some k) := fun j k h => by
  rw [Array.getElem?_replicate] at h
  split at h <;> cases h
 exact ⟨by simp, fun j k h => absurd h (no j k), fun k hk => by omega, fun i j k h => absurd h (no i k), fun j k h e => absurd e (no j k)⟩
theorem zhc {M : Nat} (hM : Mok M) (hashes : Array Int) (hl : hashes.size <= M + 1) : ∃ owner, layClean M hashes = some owner /\ Lay M hashes.toList owner hashes.size := by
 obtain ⟨o, h1, h2⟩ := zjg hM (hs := hashes.toList) (by simpa using hl) hashes.toList _ 0 (Nat.zero_le _) (by simp) (zle M _)
 refine ⟨o, ?_, by simpa using h2⟩
 unfold layClean
 rw [<- Array.foldl_toList, h1]
 rfl
noncomputable def lives (M : Nat) (owner : Array (Option Nat)) : List (Nat × Nat) := (List.range (M + 1)).filterMap fun j => (owner.getD j Option.none).map (j, ·)
theorem getD_some {owner : Array (Option Nat)} {j k : Nat} : owner.getD j Option.none = some k ↔ owner[j]? = some (some k) := by
 unfold Array.getD
 split
 ·rename_i h
  rw [Array.getElem?_eq_getElem h]
  simp
 ·rename_i h
  rw [Array.getElem?_eq_none (by omega)]
  simp
theorem zcR {M : Nat} {owner : Array (Option Nat)} (hs : owner.size = M + 1) {j k : Nat} : (j, k) ∈ lives M owner ↔ owner[j]? = some (some k) := by
 unfold lives
 rw [List.mem_filterMap]
 constructor
 ·rintro ⟨x, hx, e⟩
  obtain ⟨y, e1, e2⟩ := Option.map_eq_some_iff.mp e
  cases e2
  exact getD_some.mp e1
 ·intro h
  have hj := (Array.getElem?_eq_some_iff.mp h).1
  exact ⟨j, List.mem_range.mpr (by omega), by rw [getD_some.mpr h]; rfl⟩
theorem zh3 (M : Nat) (owner : Array (Option Nat)) : (lives M owner).Pairwise fun a b => a.1 < b.1 := by
 unfold lives
 rw [List.pairwise_filterMap]
 refine List.Pairwise.imp ?_ List.pairwise_lt_range
 intro a b hab x hx y hy
 obtain ⟨_, _, e1⟩ := Option.map_eq_some_iff.mp hx
 obtain ⟨_, _, e2⟩ := Option.map_eq_some_iff.mp hy
 subst e1 e2
 exact hab
theorem zh5 {M : Nat} (hM : Mok M) (finger moves : Nat) (led plain : Bool) (hashes : Array Int) (hl : hashes.size <= M + 1) :
  ∃ t order, laid M finger moves led plain hashes = some (t, order) /\ t.mask = M /\ t.finger = finger /\ t.led = led /\ t.plain = plain /\ order.toList.Perm (List.range hashes.size) /\ Tab t (order.toList.map fun k => hashes.toList.getD k 0) := by
 obtain ⟨owner, h1, L⟩ := zhc hM hashes hl
 refine ⟨_, _, by unfold laid; rw [h1]; rfl, rfl, rfl, rfl, rfl, ?_, ?_⟩
 ·show ((lives M owner).map (·.2)).toArray.toList.Perm _
  rw [List.toList_toArray]
  refine (List.perm_ext_iff_of_nodup ?_ List.nodup_range).mpr fun k => ?_
  ·refine List.pairwise_map.mpr (List.Pairwise.imp_of_mem ?_ (zh3 M owner))
   intro a b ha hb hab e
   have h2 := (zcR L.size (j := a.1) (k := a.2)).mp ha
   have h3 := (zcR L.size (j := b.1) (k := b.2)).mp hb
   have e : a.2 = b.2 := e
   rw [e] at h2
   have := L.once _ _ _ h2 h3
   omega
  ·rw [List.mem_range]
   constructor
   ·intro h
    obtain ⟨⟨j, k'⟩, h2, rfl⟩ := List.mem_map.mp h
    exact L.below j _ ((zcR L.size).mp h2)
   ·intro h
    obtain ⟨j, hj⟩ := L.each k h
    exact List.mem_map.mpr ⟨(j, k), (zcR L.size).mpr hj, rfl⟩
 ·have pl : ∀ x, x ∈ (lives M owner).map (·.1) ↔ Occ owner x := fun x => by
   constructor
   ·intro h
    obtain ⟨⟨j, k⟩, h2, rfl⟩ := List.mem_map.mp h
    exact ⟨k, (zcR L.size).mp h2⟩
   ·rintro ⟨k, hk⟩
    exact List.mem_map.mpr ⟨(x, k), (zcR L.size).mpr hk, rfl⟩
  refine ⟨hM, rfl, ?_, ?_, ?_, ?_⟩
  ·show ((lives M owner).map (·.1)).toArray.size = (((lives M owner).map (·.2)).toArray.toList.map _).length
   simp
  ·show Ris ((lives M owner).map (·.1)).toArray.toList
   rw [List.toList_toArray]
   exact List.pairwise_map.mpr (zh3 M owner)
  ·intro x hx
   show x <= M
   have hx : x ∈ ((lives M owner).map (·.1)).toArray.toList := hx
   rw [List.toList_toArray] at hx
   obtain ⟨k, hk⟩ := (pl x).mp hx
   have := (Array.getElem?_eq_some_iff.mp hk).1
   rw [L.size] at this
   omega
  ·intro i g x hg hx
   have hx : ((lives M owner).map (·.1)).toArray[i]? = some x := hx
   have hg : (((lives M owner).map (·.2)).toArray.toList.map fun k => hashes.toList.getD k 0)[i]? = some g := hg
   rw [List.getElem?_toArray, List.getElem?_map] at hx
   rw [List.toList_toArray, List.getElem?_map, List.getElem?_map] at hg
   obtain ⟨p, p1, p2⟩ := Option.map_eq_some_iff.mp hx
   rw [p1] at hg
   simp only [Option.map_some, Option.some.injEq] at hg
   obtain ⟨j, k⟩ := p
   cases p2
   have hm := (zcR L.size).mp (List.mem_of_getElem? p1)
   have hk := L.below _ _ hm
   obtain ⟨q, q1, q2⟩ := L.rch _ k g hm (by rw [<- hg]; simp [hk])
   refine ⟨q, q1, fun q' hq => ?_⟩
   show _ ∈ ((lives M owner).map (·.1)).toArray.toList
   rw [List.toList_toArray]
   exact (pl _).mpr (q2 q' hq)
end ST
namespace ST
open PySem PySem.SetTable
section
variable {prog : Program} {w : World} {A : Around} {E : Value -> Shared -> Prop} {s : Shared}
abbrev rk (prog : Program) (w : World) : HeapKind prog w (List Int) := tupleKind (intKind prog w)
theorem items_int {ks : List Int} {vs : List Value} (h : ItemsAre (intKind prog w) ks vs) : ∀ v ∈ vs, ∃ n t, v = .int n t := by
 induction h with
 | nil => intro v hv; cases hv
 | cons h1 _ ih =>
  intro v hv
  rcases List.mem_cons.mp hv with rfl | hv
  ·obtain ⟨t, e⟩ := Value.isInt_shape h1
   exact ⟨_, t, e⟩
  ·exact ih v hv
theorem zk7 {ks : List Int} {a : Addr} {Q : Bool -> Shared -> Prop} (hk : IsTupleKey (intKind prog w) s.heap ks a) (h : Q false s) : wpAny (model prog w) A (ofAClassStatement 8 (.ref a)) Q E s := by
 have hT := hk.typeIs
 obtain ⟨o, items, n, ho, _, hd, hi⟩ := hk
 unfold ofAClassStatement
 refine wpAny_bind (wpAny_typeOf hT ?_)
 show wpAny _ _ (pure true >>= _) _ _ s
 refine wpAny_bind (wpAny_pure ?_)
 simp only [Bool.not_true, Bool.false_eq_true, if_false]
 refine wpAny_bind (wpAny_seqItems ho hd ?_)
 dsimp only
 refine wpAny_bind ?_
 show wpAny _ _ (forIn items _ _) _ _ s
 rw [<- Array.forIn_toList]
 refine wpAny_forIn_list _ (fun rest r s' => r.1 = none /\ s' = s /\ ∀ v ∈ rest, ∃ n t, v = .int n t) _ ?_ ?_ _ _ ⟨rfl, rfl, items_int hi⟩
 ·rintro v rest r s' ⟨hr, rfl, hall⟩
  obtain ⟨m, t, rfl⟩ := hall v List.mem_cons_self
  show wpAny _ _ (pure false >>= _) _ _ _
  refine wpAny_bind (wpAny_pure ?_)
  simp only [Bool.false_eq_true, if_false]
  exact wpAny_pure ⟨rfl, rfl, fun u hu => hall u (List.mem_cons_of_mem _ hu)⟩
 ·rintro ⟨r1, r2⟩ s' ⟨hr, rfl, _⟩
  simp only at hr
  subst hr
  exact wpAny_pure h
theorem zlt {ks : List Int} {a : Addr} {Q : Bool -> Shared -> Prop} (hk : IsTupleKey (intKind prog w) s.heap ks a) (h : Q true s) : wpAny (model prog w) A (hashByValue 8 (.ref a)) Q E s := by
 have hT := hk.typeIs
 obtain ⟨o, items, n, ho, _, hd, hi⟩ := hk
 unfold hashByValue
 refine wpAny_bind (wpAny_specialOf hT F.slot_tuple_hash.lookup ?_)
 dsimp only
 refine wpAny_bind (wpAny_seqItems ho hd ?_)
 refine wpAny_bind ?_
 show wpAny _ _ (forIn items _ _) _ _ s
 rw [<- Array.forIn_toList]
 refine wpAny_forIn_list _ (fun rest r s' => r.1 = none /\ s' = s /\ ∀ v ∈ rest, ∃ n t, v = .int n t) _ ?_ ?_ _ _ ⟨rfl, rfl, items_int hi⟩
 ·rintro v rest r s' ⟨hr, rfl, hall⟩
  obtain ⟨m, t, rfl⟩ := hall v List.mem_cons_self
  show wpAny _ _ (pure true >>= _) _ _ _
  refine wpAny_bind (wpAny_pure ?_)
  simp only [Bool.not_true, Bool.false_eq_true, if_false]
  exact wpAny_pure ⟨rfl, rfl, fun u hu => hall u (List.mem_cons_of_mem _ hu)⟩
 ·rintro ⟨r1, r2⟩ s' ⟨hr, rfl, _⟩
  simp only at hr
  subst hr
  exact wpAny_pure h
theorem zpb {ks : List Int} {b : Addr} {Q : Bool -> Shared -> Prop} (hk : IsTupleKey (intKind prog w) s.heap ks b) (l : List Value) (hl : ∀ v ∈ l, ∃ k c, v = .ref c /\ IsTupleKey (intKind prog w) s.heap k c) (h : Q false s) :
  wpAny (model prog w) A (searchCouldBeSeen (.ref b) l) Q E s := by
 unfold searchCouldBeSeen
 refine wpAny_bind ?_
 refine wpAny_forIn_list _ (fun rest r s' => r.1 = none /\ s' = s /\ ∀ v ∈ rest, ∃ k c, v = .ref c /\ IsTupleKey (intKind prog w) s.heap k c) _ ?_ ?_ _ _ ⟨rfl, rfl, hl⟩
 ·rintro v rest r s' ⟨hr, rfl, hall⟩
  obtain ⟨k, c, rfl, hc⟩ := hall v List.mem_cons_self
  have rest' : ∀ u ∈ rest, ∃ k c, u = Value.ref c /\ IsTupleKey (intKind prog w) s'.heap k c := fun u hu => hall u (List.mem_cons_of_mem _ hu)
  dsimp only
  by_cases e : (b == c || (carriedByValue (.ref b) && carriedByValue (.ref c))) = true
  ·rw [if_pos e]
   exact wpAny_pure ⟨rfl, rfl, rest'⟩
  ·rw [if_neg e]
   refine wpAny_bind ((rk prog w).quiet hk ?_)
   simp only [Bool.not_true, Bool.false_eq_true, if_false]
   refine wpAny_bind ((rk prog w).quiet hc ?_)
   simp only [Bool.not_true, Bool.false_eq_true, if_false]
   refine wpAny_bind (zk7 hk ?_)
   simp only [Bool.false_eq_true, if_false]
   refine wpAny_bind (zk7 hc ?_)
   simp only [Bool.false_eq_true, if_false]
   exact wpAny_pure ⟨rfl, rfl, rest'⟩
 ·rintro ⟨r1, r2⟩ s' ⟨hr, rfl, _⟩
  simp only at hr
  subst hr
  exact wpAny_pure h
structure Els (h : Heap) (es : Array (Int × Value)) (t : SetTable) (xs : List (List Int × Addr)) : Prop where
 es : es.toList = xs.map fun e => ((rk prog w).hash e.1, Value.ref e.2)
 is : ∀ e ∈ xs, IsTupleKey (intKind prog w) h e.1 e.2
 tab : Tab t (xs.map fun e => (rk prog w).hash e.1)
 few : xs.length <= t.mask
theorem Els.fits {h : Heap} {es : Array (Int × Value)} {t : SetTable} {xs : List (List Int × Addr)} (X : Els (prog := prog) (w := w) h es t xs) : t.fits es.size = true := by
 have hl : es.size = xs.length := by have := congrArg List.length X.es; simpa using this
 have h1 := X.tab.len
 rw [List.length_map] at h1
 have h2 := X.few
 unfold SetTable.fits SetTable.fill
 rw [X.tab.dum, hl, h1]
 simp
 omega
theorem Els.at {h : Heap} {es : Array (Int × Value)} {t : SetTable} {xs : List (List Int × Addr)} (X : Els (prog := prog) (w := w) h es t xs) {i : Nat} {e : List Int × Addr} (he : xs[i]? = some e) : es[i]? = some ((rk prog w).hash e.1, Value.ref e.2) := by
 rw [<- Array.getElem?_toList, X.es, List.getElem?_map, he]; rfl
theorem zfP {a : Addr} {o : Obj} {es : Array (Int × Value)} {ep : Nat} {t : SetTable} {xs : List (List Int × Addr)} {key : List Int} {b : Addr} {Q : SetFound -> Shared -> Prop}
  (hu : A.units < cLine) (ho : s.heap.get? a = some o) (hd : o.data = .set es ep t) (X : Els (prog := prog) (w := w) s.heap es t xs) (hb : IsTupleKey (intKind prog w) s.heap key b)
  (h1 : key ∈ xs.map (·.1) -> Q (.there none) s) (h2 : key ∉ xs.map (·.1) -> ∀ j, zrS t ((rk prog w).hash key) j -> Q (.free j false) s) :
  ∀ (fuel k : Nat) (stand : Option Probe), stand.getD (t.probeStart ((rk prog w).hash key)) = way t.mask ((rk prog w).hash key) k -> (∀ m < k, ∃ (i : Nat) (e : List Int × Addr), t.place[i]? = some (way t.mask ((rk prog w).hash key) m).j /\ xs[i]? = some e /\ e.1 ≠ key) -> (∃ K, k <= K /\ K < k + fuel /\ K < 10 * (t.mask + 15) /\ (way t.mask ((rk prog w).hash key) K).j ∉ t.place.toList /\ ∀ m < K, (way t.mask ((rk prog w).hash key) m).j ∈ t.place.toList) ->
   wpAny (model prog w) A (setSearchFrom a (.ref b) ((rk prog w).hash key) true fuel stand) Q E s
 | 0, k, stand, _, _, ⟨K, q1, q2, _⟩ => by omega
 | fuel + 1, k, stand, hst, hpast, ⟨K, q1, q2, q3, q4, q5⟩ => by
  have T := X.tab
  have hodd : t.gaveWay = false := by
   unfold SetTable.gaveWay
   rcases T.mask with e | e | e <;> rw [e] <;> rfl
  unfold setSearchFrom
  refine wpAny_bind (wpAny_setState_of ho hd X.fits ?_)
  dsimp only
  rw [hodd]
  simp only [Bool.false_eq_true, if_false]
  have hA : ∀ (i : Nat) g, (xs.map fun e => (rk prog w).hash e.1)[i]? = some g -> ((es[i]?).map (·.1)).getD 0 = g := fun i g hg => by
   rw [List.getElem?_map] at hg
   obtain ⟨e, e1, e2⟩ := Option.map_eq_some_iff.mp hg
   rw [X.at e1]; exact e2
  obtain ⟨k1, g1, g2, g3⟩ := zlv T (hashAt := fun i => ((es[i]?).map (·.1)).getD 0) hA ((rk prog w).hash key) (10 * turns t.mask) k ⟨K, q1, by unfold turns; omega, q4⟩
  rw [hst]
  have look : ∀ (i : Nat) g, (xs.map fun e => (rk prog w).hash e.1)[i]? = some g -> ∃ e, xs[i]? = some e /\ (rk prog w).hash e.1 = g := fun i g hg => by
   rw [List.getElem?_map] at hg
   obtain ⟨e, e1, e2⟩ := Option.map_eq_some_iff.mp hg
   exact ⟨e, e1, e2⟩
  have hpast' : ∀ m < k1, ∃ (i : Nat) (e : List Int × Addr), t.place[i]? = some (way t.mask ((rk prog w).hash key) m).j /\ xs[i]? = some e /\ e.1 ≠ key := fun m hm => by
   rcases Nat.lt_or_ge m k with c | c
   ·exact hpast m c
   ·obtain ⟨i, g, p1, p2, p3⟩ := g2 m c hm
    obtain ⟨e, e1, e2⟩ := look i g p2
    exact ⟨i, e, p1, e1, fun q => p3 (by rw [<- e2, q])⟩
  rcases g3 with ⟨n1, n2⟩ | ⟨i, n1, n2, n3⟩
  ·have n2' : t.probe _ ((rk prog w).hash key) (way t.mask ((rk prog w).hash key) k) = _ := n2
   simp only [SetTable.probe] at n2' ⊢
   erw [n2]
   dsimp only
   refine wpAny_pure (h2 (fun hm => ?_) _ ⟨n1, k1, rfl, fun m hm => ?_⟩)
   ·obtain ⟨e, he, ek⟩ := List.mem_map.mp hm
    obtain ⟨i, hi⟩ := List.mem_iff_getElem?.mp he
    have hh : (xs.map fun e => (rk prog w).hash e.1)[i]? = some ((rk prog w).hash key) := by rw [List.getElem?_map, hi, <- ek]; rfl
    have hil : i < t.place.size := by rw [T.len]; exact (List.getElem?_eq_some_iff.mp hh).1
    obtain ⟨kk, w1, w2⟩ := T.rch i _ _ hh (Array.getElem?_eq_getElem hil)
    rcases Nat.lt_trichotomy kk k1 with c | c | c
    ·obtain ⟨i', e', p1, p2, p3⟩ := hpast' kk c
     rw [w1] at p1
     have : i = i' := by
      rw [<- below_at T.ris (Array.getElem?_eq_getElem hil), <- below_at T.ris p1]
     subst this
     rw [hi] at p2; cases p2
     exact p3 ek
    ·subst c; rw [w1] at n1; exact n1 (by simp)
    ·exact n1 (w2 k1 c)
   ·obtain ⟨i', e', p1, _⟩ := hpast' m hm
    exact List.mem_of_getElem? (by rw [Array.getElem?_toList]; exact p1)
  ·simp only [SetTable.probe]
   erw [n3]
   dsimp only
   obtain ⟨e, e1, e2⟩ := look i _ n2
   have hes := X.at e1
   have hey := X.is e (List.mem_of_getElem? e1)
   have main : wpAny (model prog w) A (holding [Value.ref e.2] (eqBool (.ref e.2) (.ref b)) >>= fun equal => setState a >>= fun x => match x with
     | (es', _, t') => if (true && equal) = true then pure (SetFound.there none) else
      match t'.sameMemory t.moves t.mask with
      | some same =>
       have jp := fun still => match still with
        | none => do
         rule "set.search.anew"
         setSearchFrom a (.ref b) ((rk prog w).hash key) true fuel none
        | some i' => if equal = true then pure (SetFound.there (some i')) else setSearchFrom a (.ref b) ((rk prog w).hash key) true fuel (some (way t.mask ((rk prog w).hash key) (k1 + 1)))
       match if same = true then t'.slot (way t.mask ((rk prog w).hash key) k1).j else Slot.empty with
       | .live i' => match es'[i']? with
        | some (_, y') => do
         let r <- isSame y' (.ref e.2)
         let still <- pure (if r = true then some i' else none)
         jp still
        | none => do
         let still <- pure none
         jp still
       | _ => do
        let still <- pure none
        jp still
      | _ => unsupported "set.changed-during-lookup:is-the-new-block-at-the-old-address") Q E s := by
    refine wpAny_bind (wpAny_holding ((rk prog w).eqBool hu hey hb ?_))
    refine wpAny_bind (wpAny_setState_of ho hd X.fits ?_)
    dsimp only
    by_cases hk : e.1 = key
    ·rw [decide_eq_true hk]
     simp only [Bool.and_self, if_true]
     exact wpAny_pure (h1 (List.mem_map.mpr ⟨e, List.mem_of_getElem? e1, hk⟩))
    ·rw [decide_eq_false hk]
     simp only [Bool.and_false, Bool.false_eq_true, if_false]
     have sm : t.sameMemory t.moves t.mask = some true := by unfold SetTable.sameMemory; simp
     rw [sm]
     dsimp only
     rw [if_pos rfl, T.live n1]
     dsimp only
     rw [hes]
     dsimp only
     refine wpAny_bind (wpAny_isSame_ref_self ?_)
     refine wpAny_bind (wpAny_pure ?_)
     rw [if_pos rfl]
     dsimp only
     have hKk : k1 < K := by
      rcases Nat.lt_trichotomy K k1 with c | c | c
      ·obtain ⟨i', e', p1, _⟩ := hpast' K c
       exact absurd (List.mem_of_getElem? (by rw [Array.getElem?_toList]; exact p1)) q4
      ·subst c
       exact absurd (List.mem_of_getElem? (by rw [Array.getElem?_toList]; exact n1)) q4
      ·exact c
     refine zfP hu ho hd X hb h1 h2 fuel (k1 + 1) _ rfl (fun m hm => ?_) ⟨K, by omega, by omega, q3, q4, q5⟩
     rcases Nat.lt_or_ge m k1 with c | c
     ·exact hpast' m c
     ·have : m = k1 := by omega
      subst this
      exact ⟨i, e, n1, e1, hk⟩
   rw [hes]
   by_cases hl : t.led = true
   ·rw [hl]
    simp only [Bool.not_true, Bool.false_eq_true, if_false]
    exact main
   ·have hl' : t.led = false := by simpa using hl
    rw [hl']
    simp only [Bool.not_false, if_true]
    refine wpAny_bind (zpb hb _ (fun v hv => ?_) ?_)
    ·obtain ⟨p, hp, rfl⟩ := List.mem_map.mp hv
     rw [Array.toList_filter, List.mem_filter, X.es] at hp
     obtain ⟨⟨e', he', rfl⟩, _⟩ := (And.intro (List.mem_map.mp hp.1) hp.2)
     exact ⟨e'.1, e'.2, rfl, X.is e' he'⟩
    ·simp only [Bool.false_eq_true, if_false]
     exact main
end
end ST
namespace ST
open PySem PySem.SetTable
section
variable {prog : Program} {w : World} {A : Around} {E : Value -> Shared -> Prop} {s : Shared}
structure zke (prog : Program) (w : World) (h : Heap) (a : Addr) (xs : List (List Int × Addr)) (led : Bool) : Prop where
 ex : ∃ es ep t, h.get? a = some { cls := .type "set", dict := none, data := .set es ep t } /\ Els (prog := prog) (w := w) h es t xs /\ t.led = led /\ t.plain = true /\ xs.length * 5 < t.mask * 3
 nd : (xs.map (·.1)).Nodup
theorem zgK {h h' : Heap} {ks : List Int} {b a : Addr} {es : Array (Int × Value)} {ep : Nat} {t : SetTable} {c : Value} {d : Option Addr} {sl : Array (Option Value)} (x : IsTupleKey (intKind prog w) h ks b) (ho : h.get? a = some { cls := c, dict := d, data := .set es ep t, slots := sl }) (hs : Heap.SameBut a h h') : IsTupleKey (intKind prog w) h' ks b := by
 obtain ⟨o', items, n, ho', hc, hd', hi⟩ := x
 have hne : b ≠ a := by
  rintro rfl
  obtain rfl : o' = _ := Option.some.inj (ho'.symm.trans ho)
  cases hd'
 exact ⟨o', items, n, (hs.2 b hne).trans ho', hc, hd', hi⟩
theorem zgR {h : Heap} {a : Addr} {es es' : Array (Int × Value)} {ep : Nat} {t t' : SetTable} (ho : h.get? a = some { cls := .type "set", dict := none, data := .set es ep t }) : (h.update a (Obj.putSet es' t')).get? a = some { cls := .type "set", dict := none, data := .set es' (ep + 1) t' } := by
 have e : Obj.putSet es' t' { cls := .type "set", dict := none, data := .set es ep t } = { cls := .type "set", dict := none, data := .set es' (ep + 1) t' } := putSet_of es' t' rfl
 have := Heap.get?_update_self (Obj.putSet es' t') ho (by rw [e]; rfl)
 rw [e] at this; exact this
theorem zgT {α β : Type} (l : List α) (f : α -> β) (d : β) : ∀ (order : List Nat), (∀ k ∈ order, k < l.length) -> order.map (fun k => (l.map f).getD k d) = (order.filterMap fun k => l[k]?).map f
 | [], _ => rfl
 | k :: order, h => by
  have hk := h k List.mem_cons_self
  have ih := zgT l f d order fun j hj => h j (List.mem_cons_of_mem _ hj)
  rw [List.map_cons, List.filterMap_cons, List.getElem?_eq_getElem hk]
  dsimp only
  rw [List.map_cons, ih]
  congr 1
  simp [hk]
theorem zjI {a : Addr} {es : Array (Int × Value)} {ep : Nat} {t : SetTable} {xs : List (List Int × Addr)} {led : Bool} {wanted M : Nat} {Q : Unit -> Shared -> Prop}
  (ho : s.heap.get? a = some { cls := .type "set", dict := none, data := .set es ep t }) (X : Els (prog := prog) (w := w) s.heap es t xs) (hled : t.led = led) (hpl : t.plain = true) (hM : Mok M) (hw : sizeAbove wanted = M + 1) (hfew : xs.length * 5 < M * 3) (hnd : (xs.map (·.1)).Nodup)
  (h : ∀ h' xs', Heap.SameBut a s.heap h' -> zke prog w h' a xs' led -> xs'.Perm xs -> Q () { s with heap := h' }) : wpAny (model prog w) A (setRelay a wanted) Q E s := by
 have hlen : es.size = xs.length := by have := congrArg List.length X.es; simpa using this
 have hhs : (es.map (·.1)).toList = xs.map fun e => (rk prog w).hash e.1 := by rw [Array.toList_map, X.es, List.map_map]; rfl
 have hsz : (es.map (·.1)).size = xs.length := by rw [Array.size_map, hlen]
 obtain ⟨t', order, h1, h2, h3, h4, h5, h6, h7⟩ := zh5 hM t.finger (t.movedTo M) t.led t.plain (es.map (·.1)) (by rw [hsz]; omega)
 rw [hsz] at h6
 have hlt : ∀ k ∈ order.toList, k < xs.length := fun k hk => by simpa using h6.mem_iff.mp hk
 unfold setRelay
 refine wpAny_bind (wpAny_setState_of ho rfl X.fits ?_)
 dsimp only
 rw [if_neg (by rw [hw]; rcases hM with e | e | e <;> rw [e] <;> decide)]
 have hr : t.relaid (es.map (·.1)) wanted = some (t', order) := by
  unfold SetTable.relaid
  rw [hw, Nat.add_sub_cancel]; exact h1
 rw [hr]
 have hes' : (order.filterMap (es[·]?)).toList = (order.toList.filterMap fun k => xs[k]?).map fun e => ((rk prog w).hash e.1, Value.ref e.2) := by
  rw [Array.toList_filterMap, List.map_filterMap]
  congr 1
  funext k
  rw [<- Array.getElem?_toList, X.es, List.getElem?_map]
 have hperm : (order.toList.filterMap fun k => xs[k]?).Perm xs := (h6.filterMap _).trans (by rw [List.filterMap_getElem?_range_length])
 have hsz' : (order.filterMap (es[·]?)).size = es.size := by
  rw [<- Array.length_toList, hes', List.length_map, hperm.length_eq, hlen]
 refine wpAny_bind (m := _) ?_
 show wpAny _ _ (do
  let some (t, order) := some (t', order) | unsupported "internal:set-table-without-room"
  let es' := order.filterMap (es[·]?)
  if es'.size != es.size then unsupported "internal:set-table-lost-an-element"
  pure (es', t)) _ _ _
 dsimp only
 rw [if_neg (by rw [hsz']; simp)]
 refine wpAny_pure ?_
 have hsl : (order.filterMap (es[·]?)).size <= sizeLine := by
  rw [hsz', hlen]
  have : sizeLine = 16777216 := rfl
  rcases hM with e | e | e <;> subst e <;> omega
 refine wpAny_storeSet_of ho rfl ?_ hsl
 have sb := Heap.SameBut.update s.heap a (Obj.putSet (order.filterMap (es[·]?)) t')
 refine h _ _ sb ⟨⟨_, ep + 1, t', zgR ho, ⟨hes', fun e he => zgK (X.is e (hperm.mem_iff.mp he)) ho sb, ?_, ?_⟩, by rw [h4]; exact hled, by rw [h5]; exact hpl, ?_⟩, (hperm.map _).nodup_iff.mpr hnd⟩ hperm
 ·rw [<- zgT xs (fun e => (rk prog w).hash e.1) 0 order.toList hlt, <- hhs]
  exact h7
 ·rw [hperm.length_eq, h2]; omega
 ·rw [hperm.length_eq, h2]; exact hfew
theorem zpk (n : Nat) (M : Nat) (hM : Mok M) (h1 : n * 5 < M * 3) (h2 : M * 3 <= (n + 1) * 5) (hn : n < 70) : ∃ M', Mok M' /\ sizeAbove (grown (n + 1)) = M' + 1 /\ (n + 1) * 5 < M' * 3 := by
 rcases hM with e | e | e <;> subst e
 ·have : n = 4 := by omega
  subst this; exact ⟨31, .inr (.inl rfl), by decide +kernel, by omega⟩
 ·have : n = 18 := by omega
  subst this; exact ⟨127, .inr (.inr rfl), by decide +kernel, by omega⟩
 ·omega
theorem zm1 {a : Addr} {xs : List (List Int × Addr)} {key : List Int} {b : Addr} {led : Bool} {Q : Bool -> Shared -> Prop} (hu : A.units < cLine) (S : zke prog w s.heap a xs led) (hb : IsTupleKey (intKind prog w) s.heap key b) (hn : xs.length < 70)
  (h : ∀ h' xs' r, Heap.SameBut a s.heap h' -> zke prog w h' a xs' led -> (key ∈ xs.map (·.1) /\ xs' = xs \/ key ∉ xs.map (·.1) /\ xs'.Perm (xs ++ [(key, b)])) -> Q r { s with heap := h' }) :
  wpAny (model prog w) A (setAddHashed a (.ref b) ((rk prog w).hash key)) Q E s := by
 obtain ⟨⟨es, ep, t, ho, X, hled, hpl, hfew⟩, hnd⟩ := S
 have hlen : es.size = xs.length := by have := congrArg List.length X.es; simpa using this
 unfold setAddHashed setAddHashedIn
 refine wpAny_holding (wpAny_bind (wpAny_setState_of ho rfl X.fits ?_))
 dsimp only
 rw [if_neg (by simp [byScan, Value.scannable])]
 obtain ⟨K, k1, k2, k3⟩ := X.tab.first (by rw [List.length_map]; exact X.few) ((rk prog w).hash key)
 have hmk : t.mask <= 127 := by rcases X.tab.mask with e | e | e <;> omega
 refine wpAny_bind ?_
 unfold setSearch
 refine zfP (key := key) (b := b) hu ho rfl X hb (fun hm => ?_) (fun hm j F => ?_) 100000 0 none rfl (fun m hm => by omega) ⟨K, by omega, by omega, k1, k2, k3⟩
 ·dsimp only
  refine wpAny_pure ?_
  have := h s.heap xs false ⟨rfl, fun _ _ => rfl⟩ ⟨⟨es, ep, t, ho, X, hled, hpl, hfew⟩, hnd⟩ (.inl ⟨hm, rfl⟩)
  exact this
 ·dsimp only
  refine wpAny_bind (wpAny_setState_of ho rfl X.fits ?_)
  dsimp only
  obtain ⟨p1, p2, p3⟩ := X.tab.put F
  rw [List.length_map] at p1
  have hpt : (t.put j).1.plain = true := by rw [p2]; exact hpl
  have hmt : (t.put j).1.mask = t.mask := by rw [p2]
  have hlt : (t.put j).1.led = led := by rw [p2]; exact hled
  generalize hT : (t.put j) = P at *
  obtain ⟨t1, p⟩ := P
  dsimp only at *
  rw [hpt]
  simp only [if_true]
  refine wpAny_bind (zlt hb ?_)
  simp only [if_true]
  let xs1 := xs.take p ++ (key, b) :: xs.drop p
  have hperm : xs1.Perm (xs ++ [(key, b)]) := by
   have e : xs.take p ++ xs.drop p = xs := List.take_append_drop p xs
   have : xs1.Perm ((key, b) :: (xs.take p ++ xs.drop p)) := List.perm_middle
   rw [e] at this
   exact this.trans (List.perm_append_singleton _ _).symm
  have hl1 : xs1.length = xs.length + 1 := by rw [hperm.length_eq]; simp
  have hes1 : (insertAt es p ((rk prog w).hash key, Value.ref b)).toList = xs1.map fun e => ((rk prog w).hash e.1, Value.ref e.2) := by
   rw [toList_insertAt, X.es]
   simp [xs1, List.map_take, List.map_drop]
  have hsz1 : (insertAt es p ((rk prog w).hash key, Value.ref b)).size = xs.length + 1 := by rw [<- Array.length_toList, hes1, List.length_map, hl1]
  have hsl : (insertAt es p ((rk prog w).hash key, Value.ref b)).size <= sizeLine := by
   rw [hsz1]
   have : sizeLine = 16777216 := rfl
   omega
  refine wpAny_bind (wpAny_storeSet_of ho rfl ?_ hsl)
  have sb := Heap.SameBut.update s.heap a (Obj.putSet (insertAt es p ((rk prog w).hash key, Value.ref b)) t1)
  have ho1 := zgR (es' := insertAt es p ((rk prog w).hash key, Value.ref b)) (t' := t1) ho
  have hm7 : 7 <= t.mask := by rcases X.tab.mask with e | e | e <;> omega
  have X1 : Els (prog := prog) (w := w) (s.heap.update a (Obj.putSet (insertAt es p ((rk prog w).hash key, Value.ref b)) t1)) (insertAt es p ((rk prog w).hash key, Value.ref b)) t1 xs1 := by
   refine ⟨hes1, fun e he => ?_, ?_, by rw [hl1, hmt]; omega⟩
   ·rcases List.mem_append.mp (hperm.mem_iff.mp he) with q | q
    ·exact zgK (X.is e q) ho sb
    ·cases List.mem_singleton.mp q; exact zgK hb ho sb
   ·have : xs1.map (fun e => (rk prog w).hash e.1) = (xs.map fun e => (rk prog w).hash e.1).take p ++ (rk prog w).hash key :: (xs.map fun e => (rk prog w).hash e.1).drop p := by simp [xs1, List.map_take, List.map_drop]
    rw [this]; exact p3
  have hnd1 : (xs1.map (·.1)).Nodup := by
   refine (hperm.map _).nodup_iff.mpr ?_
   rw [List.map_append, List.nodup_append]
   refine ⟨hnd, by simp, fun x hx y hy => ?_⟩
   simp at hy
   subst hy
   exact fun e => hm (e ▸ hx)
  by_cases hf : t1.tooFull = true
  ·rw [hf]
   simp only [Bool.not_false, Bool.and_self, if_true]
   have hfill : t1.fill = xs.length + 1 := by
    unfold SetTable.fill
    rw [p3.dum, p3.len]
    simp
    omega
   have hfull : t.mask * 3 <= (xs.length + 1) * 5 := by
    have := hf
    unfold SetTable.tooFull at this
    rw [hfill, hmt] at this
    simpa using this
   obtain ⟨M', g1, g2, g3⟩ := zpk xs.length t.mask X.tab.mask hfew hfull hn
   rw [hlen]
   refine wpAny_bind (zjI (led := led) ho1 X1 hlt hpt g1 g2 (by rw [hl1]; exact g3) hnd1 fun h' xs' sb' S' pm => ?_)
   refine wpAny_pure ?_
   exact h h' xs' true (sb.trans sb') S' (.inr ⟨hm, pm.trans hperm⟩)
  ·have hf' : t1.tooFull = false := by simpa using hf
   rw [hf']
   simp only [Bool.not_false, Bool.and_false, Bool.false_eq_true, if_false]
   refine wpAny_pure ?_
   have hfill : t1.fill = xs.length + 1 := by
    unfold SetTable.fill
    rw [p3.dum, p3.len]
    simp
    omega
   have hfull : (xs.length + 1) * 5 < t.mask * 3 := by
    have := hf'
    unfold SetTable.tooFull at this
    rw [hfill, hmt] at this
    simpa using this
   exact h _ xs1 true sb ⟨⟨_, ep + 1, t1, ho1, X1, hlt, hpt, by rw [hl1, hmt]; exact hfull⟩, hnd1⟩ (.inr ⟨hm, hperm⟩)
end
end ST
namespace ST
open PySem PySem.SetTable
noncomputable def zfh (w : World) : Bool := !w.params.followText "set-order"
noncomputable def ze7 (w : World) : Obj := { cls := .type "set", dict := none, data := .set #[] 0 (.fresh 0 0 (zfh w)) }
section
variable {prog : Program} {w : World} {A : Around} {E : Value -> Shared -> Prop} {s : Shared}
set_option maxHeartbeats 3200000 in
theorem zjo (a : Value) {Q : Value -> Shared -> Prop} (h : Q (.ref s.heap.objs.size) { s with heap := s.heap.push (ze7 w) }) :
  codeAny (model prog w) A (.call (.builtin "set.__new__") ⟨[.type "set", a], []⟩) (wants Q E) s := by
 refine codeAny_of_tree ?_
 show wpAny _ A.in1 (checkBuiltinCall "set.__new__" ⟨[.type "set", a], []⟩ >>= fun _ => again (.builtin "set.__new__" ⟨[.type "set", a], []⟩)) _ _ s
 refine wpAny_bind (wpAny_of_eq (F.newCall_set_1 a) (wpAny_pure ⟨plainId_quiet F.plain_set_new _, codeAny_builtin F.entry_set_new ?_⟩))
 rw [Around.under_plainId F.plain_set_new _]
 unfold Builtin.«set.__new__» Builtin.Frozenset.newClass newSet setsByText
 have sub := sub_set_self
 obtain ⟨hp, g, d, tk, os⟩ := s
 dsimp only
 wp_walk
 refine wpAny_askSetting (wpAny_pure ?_)
 dsimp only
 simp only [newObj]
 exact wpAny_bind (wpAny_alloc (wpAny_pure (wpAny_pure h)))
theorem zkE {h : Heap} {a : Addr} (ho : h.get? a = some (ze7 w)) : zke prog w h a [] (zfh w) :=
 ⟨⟨#[], 0, _, ho, ⟨rfl, fun e he => (by cases he), ⟨.inl rfl, rfl, rfl, .nil, fun j hj => (by cases hj), fun i g j hg => (by cases hg)⟩, by simp⟩, rfl, rfl, by show 0 * 5 < 7 * 3; omega⟩, .nil⟩
end
end ST
namespace ST
open PySem PySem.SetTable PyProof.Rows
structure Up (its : Array Value) (rows : List (List Int)) (i : Nat) (xs : List (List Int × Addr)) : Prop where
 own : ∀ e ∈ xs, ∃ j, j < i /\ its[j]? = some (.ref e.2) /\ rows[j]? = some e.1
 all : ∀ (j : Nat) r, j < i -> rows[j]? = some r -> r ∈ xs.map (·.1)
theorem Up.len {its : Array Value} {rows : List (List Int)} {i : Nat} {xs : List (List Int × Addr)} (U : Up its rows i xs) (nd : (xs.map (·.1)).Nodup) : xs.length <= i := by
 have : ∀ x ∈ xs.map (·.1), x ∈ (List.range i).map fun j => rows.getD j [] := fun x hx => by
  obtain ⟨e, he, rfl⟩ := List.mem_map.mp hx
  obtain ⟨j, h1, _, h3⟩ := U.own e he
  refine List.mem_map.mpr ⟨j, List.mem_range.mpr h1, ?_⟩
  rw [List.getD_eq_getElem?_getD, h3]; rfl
 have key : ∀ (l m : List (List Int)), l.Nodup -> (∀ x ∈ l, x ∈ m) -> l.length <= m.length := by
  intro l
  induction l with
  | nil => intro m _ _; exact Nat.zero_le _
  | cons x l ih =>
   intro m hn hs
   have h1 := List.nodup_cons.mp hn
   have hx := hs x List.mem_cons_self
   have := ih (m.erase x) h1.2 fun z hz => (List.mem_erase_of_ne (fun e : z = x => h1.1 (by rw [<- e]; exact hz))).mpr (hs z (List.mem_cons_of_mem _ hz))
   rw [List.length_erase_of_mem hx] at this
   have := List.length_pos_of_mem hx
   simp only [List.length_cons]; omega
 have := key _ _ nd this
 simpa using this
theorem Up.step {its : Array Value} {rows : List (List Int)} {i : Nat} {xs xs' : List (List Int × Addr)} {key : List Int} {b : Addr} (U : Up its rows i xs) (hi : its[i]? = some (.ref b)) (hr : rows[i]? = some key)
  (h : key ∈ xs.map (·.1) /\ xs' = xs \/ key ∉ xs.map (·.1) /\ xs'.Perm (xs ++ [(key, b)])) : Up its rows (i + 1) xs' := by
 rcases h with ⟨hm, rfl⟩ | ⟨_, hp⟩
 ·refine ⟨fun e he => ?_, fun j r hj hrj => ?_⟩
  ·obtain ⟨j, h1, h2⟩ := U.own e he
   exact ⟨j, by omega, h2⟩
  ·rcases Nat.lt_or_ge j i with q | q
   ·exact U.all j r q hrj
   ·have : j = i := by omega
    subst this
    rw [hr] at hrj; cases hrj; exact hm
 ·refine ⟨fun e he => ?_, fun j r hj hrj => ?_⟩
  ·rcases List.mem_append.mp (hp.mem_iff.mp he) with q | q
   ·obtain ⟨j, h1, h2⟩ := U.own e q
    exact ⟨j, by omega, h2⟩
   ·cases List.mem_singleton.mp q
    exact ⟨i, by omega, hi, hr⟩
  ·have hp' := hp.map (·.1)
   rw [hp'.mem_iff, List.map_append]
   rcases Nat.lt_or_ge j i with q | q
   ·exact List.mem_append_left _ (U.all j r q hrj)
   ·have : j = i := by omega
    subst this
    rw [hr] at hrj; cases hrj
    exact List.mem_append_right _ List.mem_cons_self
section
variable {prog : Program} {w : World} {A : Around} {R : Result -> Shared -> Prop} {I : Addr} {fp wr : List Addr} {G : Array GenState -> Array GenState -> Prop} {n : Nat} {P : Nat -> Value -> Prop} {St : Nat -> Shared -> Prop}
def zoV (prog : Program) (w : World) (h : Heap) (its : Array Value) (rows : List (List Int)) : Prop := ∀ (i : Nat) v, its[i]? = some v -> ∃ b r, v = .ref b /\ rows[i]? = some r /\ IsTupleKey (intKind prog w) h r b
theorem zoV.at {h h' : Heap} {its : Array Value} {rows : List (List Int)} (T : zoV prog w h its rows) (k : ∀ (i : Nat) b, its[i]? = some (.ref b) -> ∀ o, h.get? b = some o -> h'.get? b = some o) : zoV prog w h' its rows := fun i v hv => by
 obtain ⟨b, r, rfl, h1, o, items, m, h2, h3⟩ := T i v hv
 exact ⟨b, r, rfl, h1, o, items, m, k i b hv o h2, h3⟩
theorem zk9 (W : WalksS prog w A.in1 I fp wr G n (fun i v => P i v) St) (Sa : Addr) (hSf : Sa ∉ fp) {its : Array Value} {rows : List (List Int)} (hP : ∀ i v, P i v -> its[i]? = some v) (hn : n < 70) (hu : A.units + 1 < cLine) (led : Bool)
  (hoff : ∀ (i : Nat) b, its[i]? = some (.ref b) -> b ∉ Sa :: wr) : ∀ (k i : Nat) (s : Shared) (xs : List (List Int × Addr)), n - i = k -> i <= n -> St i s -> zke prog w s.heap Sa xs led -> zoV prog w s.heap its rows -> Up its rows i xs ->
   (∀ s' xs', Moved (Sa :: wr) G s s' -> zke prog w s'.heap Sa xs' led -> Up its rows n xs' -> R (.ok (.ret .none)) s') ->
   codeAny (model prog w) A (.builtin "set.update.loop" ⟨[.ref Sa, .ref I], []⟩) R s := by
 have hSw : Sa ∉ wr := fun z => hSf (W.sub _ z)
 have more : ∀ b ∈ wr, b ∈ Sa :: wr := fun b hb => List.mem_cons_of_mem _ hb
 have keepS : ∀ {s s' : Shared} {xs : List (List Int × Addr)} {wr' : List Addr}, Sa ∉ wr' -> (∀ e ∈ xs, e.2 ∉ wr') -> Moved wr' G s s' -> zke prog w s.heap Sa xs led -> zke prog w s'.heap Sa xs led := fun {s s' xs wr'} h1 h2 hm ⟨⟨es, ep, t, ho, X, r1, r2, r3⟩, nd⟩ =>
  ⟨⟨es, ep, t, hm.heap Sa _ h1 ho, ⟨X.es, fun e he => by
   obtain ⟨o, items, m, g1, g2⟩ := X.is e he
   exact ⟨o, items, m, hm.heap _ _ (h2 e he) g1, g2⟩, X.tab, X.few⟩, r1, r2, r3⟩, nd⟩
 intro k
 induction k with
 | zero =>
  intro i s xs hk hi hst hS hT hU hR
  have e : i = n := by omega
  subst e
  refine codeAny_builtin F.entry_set_update_loop ?_
  rw [Around.under_plainId F.plain_set_update_loop _]
  show wpAny _ A.in1 (pyNext (.ref I) >>= _) _ _ s
  refine wpAny_bind (W.done s _ _ hst fun s' hm => ?_)
  refine wpAny_pure (hR s' xs (hm.mono more) (keepS hSw (fun e he => ?_) hm hS) hU)
  obtain ⟨j, _, h2, _⟩ := hU.own e he
  exact fun z => hoff j e.2 h2 (more _ z)
 | succ k ih =>
  intro i s xs hk hi hst hS hT hU hR
  have hlt : i < n := by omega
  refine codeAny_builtin F.entry_set_update_loop ?_
  rw [Around.under_plainId F.plain_set_update_loop _]
  show wpAny _ A.in1 (pyNext (.ref I) >>= _) _ _ s
  refine wpAny_bind (W.item i s _ _ hlt hst fun v s1 hPv hst1 hm => ?_)
  have hv := hP i v hPv
  have T1 : zoV prog w s1.heap its rows := hT.at fun j b hj o e => hm.heap b o (fun z => hoff j b hj (more _ z)) e
  obtain ⟨b, r, rfl, hr, hb⟩ := T1 i v hv
  have S1 : zke prog w s1.heap Sa xs led := keepS hSw (fun e he => by
   obtain ⟨j, _, h2, _⟩ := hU.own e he
   exact fun z => hoff j e.2 h2 (more _ z)) hm hS
  have hl : xs.length < 70 := by have := hU.len hS.nd; omega
  show wpAny _ A.in1 (holding [Value.ref b] (setAdd Sa (.ref b)) >>= _) _ _ s1
  refine wpAny_bind (wpAny_holding ?_)
  unfold setAdd
  refine wpAny_holding (wpAny_bind ((rk prog w).pyHash (k := r) (a := b) (A := A.in1) hu hb ?_))
  refine zm1 (s := { s1 with toks := s1.toks + (rk prog w).draws r }) (A := A.in1) hu S1 hb hl fun h' xs' rr sb S' hx => ?_
  have fr := W.frame (i + 1) s1 h' (s1.toks + (rk prog w).draws r) hst1 (Nat.le_add_right _ _) fun c hc o e => (sb.2 c (fun z : c = Sa => hSf (z ▸ hc))).trans e
  refine wpAny_pure ⟨plainId_quiet F.plain_set_update_loop _, ih (i + 1) _ xs' (by omega) hlt fr S' (T1.at fun j c hj o e => ?_) (hU.step hv hr hx) fun s2 xs2 hm2 S2 U2 => ?_⟩
  ·exact (sb.2 c (fun z => hoff j c hj (z ▸ List.mem_cons_self))).trans e
  ·refine hR s2 xs2 (Moved.trans W.gtrans ((hm.mono more).then_heap (Nat.le_add_right _ _) fun c o hc e => ?_) hm2) S2 U2
   exact (sb.2 c (fun z => hc (z ▸ List.mem_cons_self))).trans e
end
end ST
namespace ST
open PySem PySem.SetTable PyProof.Rows
section
variable {prog : Program} {w : World} {A : Around} {E : Value -> Shared -> Prop} {s : Shared}
set_option maxRecDepth 100000 in
set_option maxHeartbeats 6400000 in
theorem zmV {l : Addr} {its : Array Value} {rows : List (List Int)} {Q : Value -> Shared -> Prop} (hh : A.handled = none) (hu : A.units + 64 < cLine) (hl : s.heap.IsList l its) (hT : zoV prog w s.heap its rows) (hn : its.size < 70)
  (h : ∀ (h' : Heap) (tk : Nat) xs, zke prog w h' s.heap.objs.size xs (zfh w) -> Up its rows its.size xs -> (∀ b o, b < s.heap.objs.size -> s.heap.get? b = some o -> h'.get? b = some o) -> Q (.ref s.heap.objs.size) { s with heap := h', toks := tk }) :
  wpAny (model prog w) A (call (.type "set") [.ref l]) Q E s := by
 obtain ⟨c, tl, hmro⟩ := F.called_set.mro
 have made := F.called_set.made
 have subm := F.called_set.sub
 refine wpAny_call (codeAny_of_tree ?_)
 show wpAny _ _ (callAny (.type "set") _) _ _ _
 refine wpAny_pure ⟨Code.quiet_builtin _ (by decide +kernel), codeAny_builtin F.entry_type_call ?_⟩
 rw [Around.under_plain (weight_type_call_type "set" [.ref l] []) rfl]
 have nt := F.called_set.notType
 have cc := F.called_set.canCreate
 have tc := F.typeCall_set_1 (.ref l)
 repeat (any_goals (first | assumption | wp_step))
 refine codeAny_mono (zjo (.ref l) (E := E) (Q := fun obj s₁ => obj = .ref s.heap.objs.size /\ s₁ = { s with heap := s.heap.push (ze7 w) }) ⟨rfl, rfl⟩) fun r s₁ hr => ?_
 cases r with
 | error e => exact hr
 | ok fl =>
  cases fl with
  | ret obj =>
   obtain ⟨rfl, rfl⟩ := hr
   have hS : (s.heap.push (ze7 w)).get? s.heap.objs.size = some (ze7 w) := Heap.get?_push_size _ rfl
   have hTy : Shared.TypeIs { s with heap := s.heap.push (ze7 w) } (.ref s.heap.objs.size) "set" := ⟨_, hS, rfl⟩
   have li := F.called_set.init.lookup
   have bi := F.called_set.init.bind (.ref s.heap.objs.size)
   repeat (any_goals (first | assumption | wp_step))
   let s1 : Shared := { s with heap := s.heap.push (ze7 w) }
   refine codeAny_mono (codeAny_call_builtin (R := wants (fun r s₂ => r = .none /\ ∃ h' tk xs, s₂ = { s with heap := h', toks := tk } /\ zke prog w h' s.heap.objs.size xs (zfh w) /\ Up its rows its.size xs /\
     ∀ b o, b < s.heap.objs.size -> s.heap.get? b = some o -> h'.get? b = some o) E) F.called_set.init.plain F.entry_set_init (check_set_init_1 hTy ?_)) fun r₂ s₂ hr₂ => ?_
   ·obtain ⟨⟨ocls, odict, odata, oslots⟩, hol, hcl, nl, hdl⟩ := id hl
    simp only at hcl hdl
    subst hcl hdl
    have hol1 : (s.heap.push (ze7 w)).get? l = some { cls := .type "list", dict := odict, data := .seq its nl, slots := oslots } := Heap.get?_push_of_some _ hol
    have sls := F.sub_list_set
    have slf := F.sub_list_frozenset
    have nd : (Value.type "list" == Value.type "dict") = false := by decide
    have hl1 : (s.heap.push (ze7 w)).IsList l its := ⟨_, hol1, rfl, nl, rfl⟩
    unfold Builtin.«set.__init__» noKeywords Builtin.Frozenset.updateFrom
    generalize hPI : pyIter = PI
    unfold ze7 at *
    wp_walk
    subst hPI
    refine wpAny_pyIter_list hl1 (wpAny_bind (wpAny_runValue ?_))
    have hlS : l < s.heap.objs.size := Heap.lt_size hol
    have hsz : (s.heap.push (ze7 w)).objs.size = s.heap.objs.size + 1 := Heap.size_push _ _
    have hneI : l ≠ (s.heap.push (ze7 w)).objs.size := by rw [hsz]; exact Nat.ne_of_lt (Nat.lt_succ_of_lt hlS)
    have szne : s.heap.objs.size ≠ (s.heap.push (ze7 w)).objs.size := by rw [hsz]; exact Nat.ne_of_lt (Nat.lt_succ_self _)
    have low : ∀ b : Addr, b < s.heap.objs.size -> b ≠ (s.heap.push (ze7 w)).objs.size := fun b hb => by rw [hsz]; exact Nat.ne_of_lt (Nat.lt_succ_of_lt hb)
    have tin : ∀ (i : Nat) b, its[i]? = some (.ref b) -> b < s.heap.objs.size := fun i b hb => by
     obtain ⟨b', r, e, _, o, _, _, ho, _⟩ := hT i _ hb
     cases e; exact Heap.lt_size ho
    refine zk9 (A := A.in1.in1) (P := fun i v => its[i]? = some v) ((Walks.list (A := A.in1.in1.in1) (by simp [hh]) _ l hneI its).toS) s.heap.objs.size ?_ (its := its) (rows := rows) (fun _ _ q => q) hn (show A.units + 1 + 1 + 1 < cLine by omega) (zfh w) ?_ its.size 0 _ [] (by omega) (Nat.zero_le _)
     ⟨⟨_, Heap.get?_push_size _ rfl, rfl, rfl⟩, hl1.push _⟩ (zkE (w := w) (Heap.get?_push_of_some _ hS)) (hT.at fun i b _ o e => Heap.get?_push_of_some _ (Heap.get?_push_of_some _ e)) ⟨fun e he => (by cases he), fun j r hj => (by omega)⟩ ?_
    ·intro hm
     rcases List.mem_cons.mp hm with q | q
     ·exact szne q
     ·exact Nat.ne_of_gt hlS (List.mem_singleton.mp q)
    ·intro i b hb hm
     have hlt := tin i b hb
     rcases List.mem_cons.mp hm with q | q
     ·exact Nat.ne_of_lt hlt q
     ·exact low b hlt (List.mem_singleton.mp q)
    ·intro s' xs' hm S' U'
     obtain ⟨h', g', d', tk', os'⟩ := s'
     obtain rfl : g' = s.gens := hm.gens
     obtain rfl : d' = s.drawn := hm.drawn
     obtain rfl : os' = s.os := hm.os
     refine wpAny_pure (wpAny_pure ⟨rfl, h', tk', xs', rfl, S', U', fun b o hb e => ?_⟩)
     refine hm.heap b o (fun q => ?_) (Heap.get?_push_of_some _ (Heap.get?_push_of_some _ e))
     rcases List.mem_cons.mp q with q | q
     ·exact Nat.ne_of_lt hb q
     ·exact low b hb (List.mem_singleton.mp q)
   ·cases r₂ with
    | error e => exact hr₂
    | ok fl₂ =>
     cases fl₂ with
     | ret r =>
      obtain ⟨rfl, h', tk, xs, rfl, g1, g2, g3⟩ := hr₂
      repeat (any_goals (first | assumption | wp_step))
      exact h h' tk xs g1 g2 g3
     | _ => exact hr₂.elim
  | _ => exact hr.elim
end
end ST
namespace ST
open PySem PySem.SetTable
section facts
set_option maxRecDepth 100000
theorem zpZ : Manifest.owners.lookup (String.ofList ['r', 'o', 't', 'a', 'r', 'e', 't', 'i', '_', 't', 'e', 's'].reverse) = some Manifest.sig_set_iterator := by kernel_rfl
theorem zcA : Slot "set_iterator" "__next__" "set_iterator.__next__" :=
 .of (owner := "set_iterator") (n := "__next__") (by rw [typeLookup_type, builtinLookup_eq_fast]; kernel_rfl) (by decide +kernel) (by decide +kernel) (by decide +kernel) (by first | exact .inl (by decide +kernel) | exact .inr (by decide +kernel)) (by rw [isSubtype_type]; kernel_rfl)
theorem zgD : entryFor table "set_iterator.__next__" = some Builtin.«set_iterator.__next__» := entryFor_of_tree (by kernel_rfl)
theorem zgF (a : Value) : argsOk "set_iterator.__next__" ⟨[a], []⟩ := by
 unfold argsOk
 rw [signature?_of (id := "set_iterator.__next__") (n := ['_', '_', 't', 'x', 'e', 'n', '_', '_']) (o := ['r', 'o', 't', 'a', 'r', 'e', 't', 'i', '_', 't', 'e', 's']) (by kernel_rfl) zpZ]
 kernel_rfl
theorem ziR : entryFor table "set.__iter__" = some Builtin.«frozenset.__iter__» := entryFor_alias (id' := "frozenset.__iter__") (by kernel_rfl) rfl (by decide +kernel) (by kernel_rfl)
theorem zgx : Slot "set_iterator" "__iter__" "set_iterator.__iter__" :=
 .of (owner := "set_iterator") (n := "__iter__") (by rw [typeLookup_type, builtinLookup_eq_fast]; kernel_rfl) (by decide +kernel) (by decide +kernel) (by decide +kernel) (by first | exact .inl (by decide +kernel) | exact .inr (by decide +kernel)) (by rw [isSubtype_type]; kernel_rfl)
theorem zj4 : entryFor table "set_iterator.__iter__" = some Builtin.«dict_keyiterator.__iter__» := entryFor_alias (id' := "dict_keyiterator.__iter__") (by kernel_rfl) rfl (by decide +kernel) (by kernel_rfl)
theorem zkc (a : Value) : argsOk "set_iterator.__iter__" ⟨[a], []⟩ := by
 unfold argsOk
 rw [signature?_of (id := "set_iterator.__iter__") (n := ['_', '_', 'r', 'e', 't', 'i', '_', '_']) (o := ['r', 'o', 't', 'a', 'r', 'e', 't', 'i', '_', 't', 'e', 's']) (by kernel_rfl) zpZ]
 kernel_rfl
end facts
end ST
namespace ST
open PySem PySem.SetTable
theorem zgC {α : Type} : ∀ (l : List α) (i : Nat) (x : α), l[i]? = some x -> l.Perm (x :: l.eraseIdx i)
 | [], i, x, h => by simp at h
 | y :: l, 0, x, h => by simp at h; subst h; simp
 | y :: l, i + 1, x, h => by
  have ih := zgC l i x (by simpa using h)
  rw [List.eraseIdx_cons_succ]
  exact (ih.cons y).trans (.swap x y _)
theorem zkQ {α : Type} (next : Nat -> Nat) : ∀ (f k : Nat) (left : List α) (out : Array α), left.length = f -> (pickOrder.go next f k left out).toList.Perm (out.toList ++ left)
 | 0, k, left, out, h => by
  cases left with
  | nil => unfold pickOrder.go; simp
  | cons _ _ => simp at h
 | f + 1, k, left, out, h => by
  unfold pickOrder.go
  have hlt : next k % left.length < left.length := Nat.mod_lt _ (by omega)
  rw [List.getElem?_eq_getElem hlt]
  dsimp only
  refine (zkQ next f (k + 1) _ _ (by rw [List.length_eraseIdx_of_lt hlt]; omega)).trans ?_
  rw [Array.toList_push, List.append_assoc]
  exact (zgC left _ _ (List.getElem?_eq_getElem hlt)).symm.append_left _
theorem zkP {α : Type} (next : Nat -> Nat) (xs : Array α) : (pickOrder next xs).toList.Perm xs.toList := by
 unfold pickOrder
 simpa using zkQ next xs.size 0 xs.toList #[] (by simp)
noncomputable def comes (w : World) (a : Addr) (es : Array (Int × Value)) (ep : Nat) : Array (Int × Value) := if w.params.followText "set-order" = true then pickOrder (w.params.setOrder a ep) es else es
theorem zcH (w : World) (a : Addr) (es : Array (Int × Value)) (ep : Nat) : (comes w a es ep).toList.Perm es.toList := by
 unfold comes
 split
 ·exact zkP _ _
 ·exact .refl _
noncomputable def zh6 (a : Addr) (slot i n ep : Nat) : Obj := { cls := .type "set_iterator", data := .fields #[rawInt slot, rawInt i, .ref a, rawInt n, rawInt ep] }
noncomputable def slotAt (t : SetTable) : Nat -> Nat
 | 0 => 0
 | i + 1 => t.place.getD i 0 + 1
theorem zkb {t : SetTable} (hr : Ris t.place.toList) : ∀ i, i <= t.place.size -> below t.place (slotAt t i) = i
 | 0, _ => by
  obtain ⟨h1, h2, h3⟩ := zd9 (xs := t.place) (j := 0) hr
  rcases Nat.eq_zero_or_pos (below t.place 0) with q | q
  ·exact q
  ·have := h2 0 (by omega) q
   omega
 | i + 1, hi => by
  have hd : t.place.getD i 0 = t.place[i] := ziQ (by omega)
  show below t.place (t.place.getD i 0 + 1) = i + 1
  rw [hd]
  obtain ⟨h1, h2, h3⟩ := zd9 (xs := t.place) (j := t.place[i] + 1) hr
  have ris : ∀ a b (ha : a < t.place.size) (hb : b < t.place.size), a < b -> t.place[a] < t.place[b] := fun a b ha hb hab => by
   have r := List.pairwise_iff_getElem.mp hr a b (by simpa using ha) (by simpa using hb) hab
   rw [Array.getElem_toList, Array.getElem_toList] at r
   exact r
  rcases Nat.lt_trichotomy (below t.place (t.place[i] + 1)) (i + 1) with q | q | q
  ·have := h3 i (by omega) (by omega)
   omega
  ·exact q
  ·have a := h2 (i + 1) (by omega) q
   have b := ris i (i + 1) (by omega) (by omega) (by omega)
   omega
structure zee (w : World) (h : Heap) (a : Addr) (es : Array (Int × Value)) (ep : Nat) (t : SetTable) : Prop where
 get : h.get? a = some { cls := .type "set", dict := none, data := .set es ep t }
 fits : t.fits es.size = true
 ris : Ris t.place.toList
 led : t.led = zfh w
 plain : t.plain = true
theorem zee.size {w : World} {h : Heap} {a : Addr} {es : Array (Int × Value)} {ep : Nat} {t : SetTable} (S : zee w h a es ep t) : t.place.size = es.size := by
 have := S.fits
 simp only [SetTable.fits, Bool.and_eq_true, beq_iff_eq] at this
 exact this.1
section
variable {prog : Program} {w : World} {A : Around} {E : Value -> Shared -> Prop} {s : Shared}
theorem zh0 {a : Addr} {es : Array (Int × Value)} {ep : Nat} {t : SetTable} {i : Nat} {Q : Option (Value × Nat) -> Shared -> Prop} (S : zee w s.heap a es ep t) (hi : i <= es.size) (slot : Nat) (hs : w.params.followText "set-order" = false -> slot = slotAt t i)
  (h : ∀ slot', (w.params.followText "set-order" = false -> slot' = slotAt t (i + 1)) -> Q ((comes w a es ep)[i]?.map fun e => (e.2, slot')) s) : wpAny (model prog w) A (setNext a slot i ep) Q E s := by
 unfold setNext setsByText
 refine wpAny_bind (wpAny_setState_of S.get rfl S.fits ?_)
 dsimp only
 refine wpAny_bind (wpAny_bind (wpAny_askSetting (wpAny_pure ?_)))
 show wpAny _ A (if w.params.followText "set-order" = true then _ else _) Q E s
 cases hb : w.params.followText "set-order" with
 | true =>
  rw [if_pos rfl, if_neg (by simp)]
  unfold setWalk setsByText
  refine wpAny_bind (wpAny_bind (wpAny_setState_of S.get rfl S.fits ?_))
  dsimp only
  refine wpAny_bind (wpAny_bind (wpAny_askSetting (wpAny_pure ?_)))
  show wpAny _ A (if w.params.followText "set-order" = true then _ else _) _ E s
  rw [if_pos hb]
  refine wpAny_bind (wpAny_askSetting (wpAny_pure ?_))
  refine wpAny_pure ?_
  have := h slot (fun q => by rw [hb] at q; cases q)
  unfold comes at this
  rw [if_pos hb] at this
  exact this
 | false =>
  rw [if_neg (by simp)]
  split
  ·rename_i hd
   have hd' : (!t.plain && decide (es.size > 1)) = true := hd
   rw [S.plain] at hd'; simp at hd'
  ·show wpAny _ A ((if (!t.led && !es.isEmpty) = true then unsupported "set:maker-not-led" else pure ()) >>= _) Q E s
   have hl : t.led = true := by rw [S.led]; unfold zfh; rw [hb]; rfl
   rw [if_neg (by rw [hl]; simp)]
   refine wpAny_bind (wpAny_pure (wpAny_pure ?_))
   have hsl := hs hb
   have hz := S.size
   rw [hsl, zkb S.ris i (by rw [hz]; exact hi)]
   have := h (slotAt t (i + 1)) (fun _ => rfl)
   unfold comes at this
   rw [if_neg (by rw [hb]; simp)] at this
   rcases Nat.lt_or_ge i es.size with q | q
   ·have hp : i < t.place.size := by rw [hz]; exact q
    rw [Array.getElem?_eq_getElem q] at this
    rw [Array.getElem?_eq_getElem q, Array.getElem?_eq_getElem hp]
    have e : slotAt t (i + 1) = t.place[i] + 1 := by show t.place.getD i 0 + 1 = _; rw [ziQ hp]
    rw [e] at this
    exact this
   ·rw [Array.getElem?_eq_none q] at this
    rw [Array.getElem?_eq_none q]
    exact this
theorem zem {a I : Addr} {slot i n ep : Nat} (ho : s.heap.get? I = some (zh6 a slot i n ep)) : s.TypeIs (.ref I) "set_iterator" := ⟨_, ho, rfl⟩
theorem zhA (k : Nat) : ((k : Int)).toNat = k := Int.toNat_natCast k
theorem znT {I a : Addr} {es : Array (Int × Value)} {ep : Nat} {t : SetTable} {i slot : Nat} {e : Int × Value} {Q : Option Value -> Shared -> Prop} (ho : s.heap.get? I = some (zh6 a slot i es.size ep)) (S : zee w s.heap a es ep t) (hs : w.params.followText "set-order" = false -> slot = slotAt t i) (he : (comes w a es ep)[i]? = some e)
  (hi : i < es.size) (h : ∀ h' slot', (w.params.followText "set-order" = false -> slot' = slotAt t (i + 1)) -> h'.get? I = some (zh6 a slot' (i + 1) es.size ep) -> Heap.SameBut I s.heap h' -> Q (some e.2) { s with heap := h' }) : wpAny (model prog w) A (pyNext (.ref I)) Q E s := by
 unfold pyNext
 refine wpAny_bind (wpAny_attempt (wpAny_callSpecial?_slot (name := Str.ofString "__next__") (zem ho) zcA (wpAny_call_entry zcA (zem ho) zgD ?_ (zgF _))))
 refine wpAny_bind (wpAny_pure ?_)
 dsimp only
 refine wpAny_bind (wpAny_fieldsOf ho rfl ?_)
 dsimp only [rawInt]
 refine wpAny_bind (wpAny_bind (wpAny_setState_of S.get rfl S.fits (wpAny_pure ?_)))
 rw [if_neg (by simp)]
 refine wpAny_bind (zh0 S (by omega) slot hs fun slot' hs' => ?_)
 rw [zhA] at hs' ⊢
 rw [he]
 dsimp only [Option.map_some]
 refine wpAny_bind (wpAny_setField ho rfl (by simp) ?_)
 have o1 := Heap.get?_update_self (Obj.mapFields (·.set! 0 (Value.int (slot' : Int) 0))) ho rfl
 refine wpAny_bind (wpAny_setField o1 rfl (by simp) ?_)
 have o2 := Heap.get?_update_self (Obj.mapFields (·.set! 1 (Value.int ((i : Int) + 1) 0))) o1 rfl
 refine wpAny_pure ⟨_, rfl, wpAny_pure (h _ slot' hs' o2 ((Heap.SameBut.update ..).trans (Heap.SameBut.update ..)))⟩
theorem zpm {I a : Addr} {es : Array (Int × Value)} {ep : Nat} {t : SetTable} {slot : Nat} {Q : Option Value -> Shared -> Prop} (hh : A.handled = none) (ho : s.heap.get? I = some (zh6 a slot es.size es.size ep)) (S : zee w s.heap a es ep t) (hs : w.params.followText "set-order" = false -> slot = slotAt t es.size)
  (h : ∀ h', Heap.ExtBut I s.heap h' -> Q none { s with heap := h' }) : wpAny (model prog w) A (pyNext (.ref I)) Q E s := by
 have hn : (comes w a es ep)[es.size]? = none := by
  have := (zcH w a es ep).length_eq
  simp only [Array.length_toList] at this
  rw [Array.getElem?_eq_none (by omega)]
 unfold pyNext
 refine wpAny_bind (wpAny_attempt (wpAny_callSpecial?_slot (name := Str.ofString "__next__") (zem ho) zcA (wpAny_call_entry zcA (zem ho) zgD ?_ (zgF _))))
 refine wpAny_bind (wpAny_pure ?_)
 dsimp only
 refine wpAny_bind (wpAny_fieldsOf ho rfl ?_)
 dsimp only [rawInt]
 refine wpAny_bind (wpAny_bind (wpAny_setState_of S.get rfl S.fits (wpAny_pure ?_)))
 rw [if_neg (by simp)]
 refine wpAny_bind (zh0 S (by simp) slot (by simpa using hs) fun slot' hs' => ?_)
 rw [zhA, hn]
 dsimp only [Option.map_none]
 refine wpAny_bind (wpAny_setField ho rfl (by simp) ?_)
 refine wpAny_bind ?_
 simp only [newExc, newTuple]
 refine wpAny_bind (wpAny_newObj_type ?_ (by size_fits))
 refine wpAny_bind (m := firstArgMember _ _) (wpAny_of_eq (a := Value.none) (by first | rfl | (simp only [firstArgMember]; rfl)) (wpAny_newObj_type ?_ (by size_fits)))
 unfold raiseNew
 refine wpAny_bind (wpAny_handled ?_)
 rw [show A.in1.handled = none from hh]
 refine wpAny_bind ((wpAny_pure (wpAny_throw ?_)))
 refine wpAny_bind ((wpAny_isInstance (T := "StopIteration") (b := true) ⟨_, Heap.get?_push_size _ rfl, rfl⟩ isSubtype_stop ?_))
 exact wpAny_pure (h _ (((Heap.SameBut.update ..).extBut.push _).push _))
theorem znS {I a : Addr} {slot i n ep : Nat} {Q : Value -> Shared -> Prop} (ho : s.heap.get? I = some (zh6 a slot i n ep)) (h : Q (.ref I) s) : wpAny (model prog w) A (pyIter (.ref I)) Q E s := by
 refine wpAny_pyIter_slot (zem ho) zgx (wpAny_call_entry zgx (zem ho) zj4 ?_ (zkc _))
 exact wpAny_pure ⟨_, rfl, "set_iterator", _, zem ho, zcA.lookup, h⟩
theorem zee.keep {h h' : Heap} {a : Addr} {es : Array (Int × Value)} {ep : Nat} {t : SetTable} (S : zee w h a es ep t) (k : ∀ o, h.get? a = some o -> h'.get? a = some o) : zee w h' a es ep t := ⟨k _ S.get, S.fits, S.ris, S.led, S.plain⟩
theorem zkr (hh : A.handled = none) (I a : Addr) (hne : a ≠ I) (es : Array (Int × Value)) (ep : Nat) (t : SetTable) :
  Walks prog w A I [I, a] [I] es.size (fun i v => ∃ e, (comes w a es ep)[i]? = some e /\ v = e.2) (fun i h => (∃ slot, (w.params.followText "set-order" = false -> slot = slotAt t i) /\ h.get? I = some (zh6 a slot i es.size ep)) /\ zee w h a es ep t) where
 sub := fun b hb => by simp at hb; simp [hb]
 frame := fun _ _ _ st k => by
  obtain ⟨⟨slot, h1, h2⟩, S⟩ := st
  exact ⟨⟨slot, h1, k I (by simp) _ h2⟩, S.keep fun o e => k a (by simp) o e⟩
 item := fun i s Q E hi st hQ => by
  obtain ⟨⟨slot, h1, h2⟩, S⟩ := st
  have hl : i < (comes w a es ep).size := by
   have := (zcH w a es ep).length_eq
   simp only [Array.length_toList] at this
   omega
  refine znT h2 S h1 (Array.getElem?_eq_getElem hl) hi fun h' slot' g1 g2 g3 => ?_
  exact hQ _ h' s.toks ⟨_, Array.getElem?_eq_getElem hl, rfl⟩ ⟨⟨slot', g1, g2⟩, S.keep fun o e => (g3.2 a hne).trans e⟩ fun b o hb e => (g3.2 b (fun z => hb (by simp [z]))).trans e
 done := fun s Q E st hQ => by
  obtain ⟨⟨slot, h1, h2⟩, S⟩ := st
  exact zpm hh h2 S h1 fun h' g => hQ h' s.toks fun b o hb e => g b o (fun z => hb (by simp [z])) e
 self := fun _ _ _ _ st hQ => by
  obtain ⟨⟨slot, h1, h2⟩, S⟩ := st
  exact znS h2 hQ
end
end ST
namespace ST
open PySem PySem.SetTable
section
variable {prog : Program} {w : World} {A : Around} {E : Value -> Shared -> Prop} {s : Shared}
theorem zqs : typeLookup (.type "set") "__len__" = pure (some (.builtin "set.__len__")) := F.slot_set_len.lookup
theorem split_len : splitId "set.__len__" = some ("set", "__len__") := by decide +kernel
theorem zmB {a : Addr} {es : Array (Int × Value)} {ep : Nat} {t : SetTable} {Q : Bool -> Shared -> Prop} (S : zee w s.heap a es ep t) (h : Q false s) : wpAny (model prog w) A (setDrawn a) Q E s := by
 unfold setDrawn setsByText
 refine wpAny_bind (wpAny_setState_of S.get rfl S.fits ?_)
 dsimp only
 refine wpAny_bind (wpAny_bind (wpAny_askSetting (wpAny_pure (wpAny_pure ?_))))
 show Q (!w.params.followText "set-order" && (!t.plain && decide (es.size > 1))) s
 rw [S.plain]
 simpa using h
set_option maxRecDepth 100000 in
set_option maxHeartbeats 4000000 in
theorem zqn {a : Addr} {es : Array (Int × Value)} {ep : Nat} {t : SetTable} {Q : Bool -> Shared -> Prop} (S : zee w s.heap a es ep t) (h : Q false s) : wpAny (model prog w) A (Builtin.List.listLengthHint (.ref a)) Q E s := by
 have Ty : s.TypeIs (.ref a) "set" := ⟨_, S.get, rfl⟩
 unfold Builtin.List.listLengthHint
 refine wpAny_bind (wpAny_specialOf Ty zqs ?_)
 dsimp only
 rw [split_len]
 dsimp only
 refine wpAny_bind (wpAny_isInstance (b := true) Ty sub_set_self ?_)
 rw [if_neg (by decide)]
 rw [if_pos (by decide +kernel)]
 refine wpAny_bind (wpAny_typeOf Ty ?_)
 exact wpAny_pure h
set_option maxRecDepth 100000 in
set_option maxHeartbeats 4000000 in
theorem ziT {a : Addr} {es : Array (Int × Value)} {ep : Nat} {t : SetTable} {Q : List Value -> Shared -> Prop} (hh : A.handled = none) (S : zee w s.heap a es ep t) (hn : es.size <= sizeLine)
  (h : ∀ (h' : Heap) (tk : Nat), (∀ b o, b < s.heap.objs.size -> s.heap.get? b = some o -> h'.get? b = some o) -> s.heap.objs.size <= h'.objs.size -> Q ((comes w a es ep).toList.map (·.2)) { s with heap := h', toks := tk }) : wpAny (model prog w) A (collect (.ref a)) Q E s := by
 have ha : a < s.heap.objs.size := Heap.lt_size S.get
 unfold collect
 refine wpAny_bind (wpAny_runValue (codeAny_builtin F.entry_proto_collect ?_))
 rw [Around.under_plainId F.plain_proto_collect _]
 show wpAny _ A.in1 (newList [] >>= fun l => again (.builtin "list.__iadd__" ⟨[l, .ref a], []⟩)) _ _ s
 refine wpAny_bind (wpAny_newObj_type (wpAny_pure ⟨plainId_quiet F.plain_list_iadd _, codeAny_builtin F.entry_list_iadd ?_⟩))
 rw [Around.under_plainId F.plain_list_iadd _]
 let L0 : Obj := { cls := .type "list", data := .seq ([] : List Value).toArray }
 have S1 : zee w (s.heap.push L0) a es ep t := S.keep fun o e => Heap.get?_push_of_some _ e
 have T1 : Shared.TypeIs { s with heap := s.heap.push L0 } (.ref a) "set" := ⟨_, S1.get, rfl⟩
 show wpAny _ A.in1 (Builtin.List.listExtendWith (.ref s.heap.objs.size) (.ref a) (.ref s.heap.objs.size)) _ _ { s with heap := s.heap.push L0 }
 unfold Builtin.List.listExtendWith
 refine wpAny_bind (wpAny_typeOf T1 ?_)
 have hne : s.heap.objs.size ≠ a := Nat.ne_of_gt ha
 have c1 : Builtin.List.listSameRef (.ref s.heap.objs.size) (.ref a) = false := by simp [Builtin.List.listSameRef, hne]
 rw [if_neg (by rw [c1]; decide)]
 refine wpAny_bind (wpAny_pyIter_slot T1 F.slot_set_iter (wpAny_call_entry F.slot_set_iter T1 ziR ?_ (F.args_set_iter_1 _)))
 refine wpAny_bind (wpAny_bind (wpAny_pure (wpAny_pure ?_)))
 refine wpAny_bind (wpAny_bind (wpAny_bind (wpAny_setState_of S1.get rfl S1.fits (wpAny_pure (wpAny_pure ?_)))))
 refine wpAny_bind (zmB S1 ?_)
 rw [if_neg (by decide)]
 refine wpAny_bind (wpAny_pure ?_)
 refine wpAny_bind (wpAny_setEpoch_of S1.get rfl S1.fits ?_)
 refine wpAny_bind (wpAny_newObj_type (wpAny_pure ⟨_, rfl, "set_iterator", _, ⟨_, Heap.get?_push_size _ rfl, rfl⟩, zcA.lookup, ?_⟩))
 let I := (s.heap.push L0).objs.size
 let h2 := (s.heap.push L0).push (zh6 a 0 0 es.size ep)
 have S2 : zee w h2 a es ep t := S1.keep fun o e => Heap.get?_push_of_some _ e
 have hI : h2.get? I = some (zh6 a 0 0 es.size ep) := Heap.get?_push_size _ rfl
 have hL : h2.get? s.heap.objs.size = some L0 := Heap.get?_push_of_some _ (Heap.get?_push_size _ rfl)
 have hsz : (s.heap.push L0).objs.size = s.heap.objs.size + 1 := Heap.size_push _ _
 show wpAny _ A.in1 _ _ _ { s with heap := h2 }
 refine wpAny_bind (wpAny_holding (zqn (s := { s with heap := h2 }) S2 ?_))
 rw [if_pos (by decide +kernel)]
 refine wpAny_bind (wpAny_rule ?_)
 refine wpAny_bind ?_
 show wpAny _ A.in1 (updateSeq s.heap.objs.size (·.push .none) >>= fun _ => updateSeq s.heap.objs.size (·.pop)) _ _ { s with heap := h2 }
 refine wpAny_bind (wpAny_updateSeq hL rfl ?_)
 have hL2 := Heap.get?_update_self (Obj.mapSeq (·.push Value.none)) hL rfl
 refine wpAny_updateSeq hL2 rfl ?_
 have hL3 := Heap.get?_update_self (Obj.mapSeq (·.pop)) hL2 rfl
 let h3 := (h2.update s.heap.objs.size (Obj.mapSeq (·.push Value.none))).update s.heap.objs.size (Obj.mapSeq (·.pop))
 have oth : ∀ b o, b ≠ s.heap.objs.size -> h2.get? b = some o -> h3.get? b = some o := fun b o hb e => (Heap.get?_update_other _ _ (Ne.symm hb)).trans ((Heap.get?_update_other _ _ (Ne.symm hb)).trans e)
 have haI : a ≠ I := by show a ≠ (s.heap.push L0).objs.size; rw [hsz]; exact Nat.ne_of_lt (Nat.lt_succ_of_lt ha)
 have hIn : I ≠ s.heap.objs.size := by show (s.heap.push L0).objs.size ≠ _; rw [hsz]; exact Nat.ne_of_gt (Nat.lt_succ_self _)
 refine wpAny_pure ⟨plainId_quiet F.plain_extend_loop _, codeAny_extend_loopS ((zkr (A := A.in1) hh I a haI es ep t).toS) hn s.heap.objs.size ?_ _ es.size 0 { s with heap := h3 } #[] _ rfl (Nat.zero_le _) ⟨⟨0, fun _ => rfl, oth I _ hIn hI⟩, S2.keep fun o e => oth a o (Ne.symm hne) e⟩ hL3 (ItemsOf.nil _) fun s' acc c' hm hS' hacc => ?_⟩
 ·intro hm
  rcases List.mem_cons.mp hm with q | q
  ·exact hIn q.symm
  ·exact hne (List.mem_singleton.mp q)
 ·refine wpAny_bind (wpAny_load hS' (wpAny_pure ?_))
  obtain ⟨h', g', d', tk', os'⟩ := s'
  obtain rfl : g' = s.gens := hm.gens
  obtain rfl : d' = s.drawn := hm.drawn
  obtain rfl : os' = s.os := hm.os
  have hcm : (comes w a es ep).size = es.size := by
   have := (zcH w a es ep).length_eq
   simpa using this
  have e : acc.toList = (comes w a es ep).toList.map (·.2) := by
   refine List.ext_getElem? fun j => ?_
   rw [List.getElem?_map]
   rcases Nat.lt_or_ge j es.size with q | q
   ·have hjl : j < acc.size := by rw [hacc.1]; exact q
    have hj : acc[j]? = some acc[j] := Array.getElem?_eq_getElem hjl
    obtain ⟨e, e1, e2⟩ := hacc.2 j _ hj
    rw [Array.getElem?_toList, Array.getElem?_toList, hj, e1, e2]; rfl
   ·rw [Array.getElem?_toList, Array.getElem?_toList, Array.getElem?_eq_none (by rw [hacc.1]; exact q), Array.getElem?_eq_none (by rw [hcm]; exact q)]; rfl
  rw [e]
  refine h h' tk' (fun b o hb e => hm.heap b o (fun q => ?_) (oth b o (Nat.ne_of_lt hb) (Heap.get?_push_of_some _ (Heap.get?_push_of_some _ e)))) ?_
  ·rcases List.mem_cons.mp q with q | q
   ·exact Nat.ne_of_lt hb q
   ·have q' : b = (s.heap.push L0).objs.size := List.mem_singleton.mp q
    rw [hsz] at q'
    exact Nat.ne_of_lt (Nat.lt_succ_of_lt hb) q'
  ·exact Nat.le_of_lt (Heap.lt_size hS')
end
end ST
namespace ST
open PySem PySem.SetTable PyProof.Rows L4
section
variable {prog : Program} {w : World} {A : Around} {E : Value -> Shared -> Prop} {s : Shared}
theorem zgv {a : Addr} {es : Array (Int × Value)} {ep : Nat} {t : SetTable} {Q : Value -> Shared -> Prop} {Out : Array Value -> Prop} (hh : A.handled = none) (S : zee w s.heap a es ep t) (hz : es.size <= sizeLine)
  (core : ∀ s6 : Shared, 2 <= es.size -> (∀ b o, s.heap.get? b = some o -> s6.heap.get? b = some o) -> Core prog w A.in1.in1 E ((comes w a es ep).toList.map (·.2)) Out s6) (short : es.size < 2 -> Out ((comes w a es ep).toList.map (·.2)).toArray)
  (fin : ∀ (out : Array Value) (h' : Heap) (tk l : Nat), Out out -> out.size = es.size -> s.heap.objs.size <= l -> (∀ b o, s.heap.get? b = some o -> h'.get? b = some o) -> (∃ e, h'.get? l = some (seqObj "list" out e)) -> Q (.ref l) { s with heap := h', toks := tk }) :
  wpAny (model prog w) A (call (.builtin "sorted") [.ref a]) Q E s := by
 have hcl : ((comes w a es ep).toList.map (·.2)).length = es.size := by
  have := (zcH w a es ep).length_eq
  rw [List.length_map, this, Array.length_toList]
 refine Calls.call_function_entry kind_sorted plain_sorted entry_sorted (args_sorted1 _) ?_
 unfold Builtin.«sorted»
 refine wpAny_bind (m := checkCount "sorted" 1 1 _) (wpAny_pure (wpAny_bind (ziT (A := A.in1) hh S hz fun h1 tk k1 k2 => wpAny_bind (wpAny_newList ?_ (by rw [hcl]; exact hz)))))
 generalize hvs : (comes w a es ep).toList.map (·.2) = vs at *
 have hoL : (h1.push (seqObj "list" vs.toArray 0)).get? h1.objs.size = some (seqObj "list" vs.toArray 0) := Heap.get?_push_size _ rfl
 have k3 : ∀ b o, s.heap.get? b = some o -> h1.get? b = some o := fun b o q => k1 b o (Heap.lt_size q) q
 show wpAny _ _ _ _ _ { s with heap := h1.push (seqObj "list" vs.toArray 0), toks := tk }
 refine wpAny_bind (wpAny_holding (wpAny_call_entry slot_list_sort ⟨_, hoL, rfl⟩ entry_list_sort (zdT hoL (by rw [hcl]; exact hz) (fun h2 s6 k => core s6 (by rw [<- hcl]; exact h2) fun b o q => k b o ?_ (Heap.get?_push_of_some _ (k3 b o q))) (fun h2 => short (by rw [<- hcl]; exact h2)) fun out g1 g2 => ⟨_, rfl, ?_⟩) (args_list_sort _)))
 ·exact Nat.ne_of_lt (Nat.lt_of_lt_of_le (Heap.lt_size q) k2)
 ·refine wpAny_pure ⟨_, rfl, fin out _ tk h1.objs.size g1 (by rw [g2, hcl]) k2 (fun b o q => ?_) (sortedHeap_at (n := 0) hoL)⟩
  have hlt : b < h1.objs.size := Heap.lt_size (k3 b o q)
  rw [sortedHeap_old (Nat.ne_of_lt hlt) (by rw [size_push']; exact Nat.lt_succ_of_lt hlt), Heap.get?_push_ne _ _ _ (Nat.ne_of_lt hlt)]
  exact k3 b o q
end
end ST
namespace ST
open PySem PySem.SetTable PySem.Spec PyProof.Rows L2
def zet (w : World) (a : Addr) (us : List Value) : Heap -> Prop := fun h => ∃ es ep t, zee w h a es ep t /\ es.toList.map (·.2) = us
theorem zet.zmb {w : World} {a : Addr} {us : List Value} {h1 h2 : Heap} (S : zet w a us h1) (k : ∀ o, h1.get? a = some o -> h2.get? a = some o) : zet w a us h2 := by
 obtain ⟨es, ep, t, S, e⟩ := S
 exact ⟨es, ep, t, S.keep k, e⟩
theorem zke.at {prog : Program} {w : World} {h : Heap} {a : Addr} {xs : List (List Int × Addr)} (S : zke prog w h a xs (zfh w)) : zet w a (xs.map fun e => Value.ref e.2) h := by
 obtain ⟨⟨es, ep, t, ho, X, h1, h2, h3⟩, _⟩ := S
 exact ⟨es, ep, t, ⟨ho, X.fits, X.tab.ris, h1, h2⟩, by rw [X.es, List.map_map]; rfl⟩
section
variable {X : Cx}
abbrev zm2 (K : PySem.W.Frag) (H : Hp) (ys : List V) (rows : List (List Int)) : Prop := Paired (fun v r => r ≠ [] /\ ∃ b, v = V.ref b /\ SqT K H b (r.map V.int)) ys rows
theorem zji : ∀ {ns : List Int} {us : List Value}, Vals (ns.map V.int) us -> ∀ {prog : Program} {w : World}, ItemsAre (intKind prog w) ns us
 | [], _, .nil, _, _ => .nil
 | n :: ns, _, .cons r t, prog, w => by
  obtain ⟨tk, rfl⟩ := r
  exact .cons (intKind_is _ _ _ _) (zji t)
structure zoY (ys : List V) (rows : List (List Int)) (vs : List V) (rs : List (List Int)) : Prop where
 sub : ∀ (i : Nat) v r, vs[i]? = some v -> rs[i]? = some r -> ∃ (j : Nat), ys[j]? = some v /\ rows[j]? = some r
 len : vs.length = rs.length
 nd : rs.Nodup
 all : ∀ r ∈ rows, r ∈ rs
theorem zlJ (hc : X.calm = true) (hu : X.A.units + 64 < cLine) : zcf X (.type "set") (fun xs H Q => ∃ p ys, ∃ rows : List (List Int), xs = [.ref p] /\ SqL X.K H p ys /\ zm2 X.K H ys rows /\ rows.length < 64 /\
  ∀ (l : Addr) (us : List Value) (vs : List V) (rs : List (List Int)), H l = none -> Vals vs us -> zoY ys rows vs rs -> Q (.ref l) (upd H l (.ext (zet X.w l us)))) := by
 intro pins s σ H xs us Q I r h
 obtain ⟨p, ys, rows, rfl, hq, hr, h64, q⟩ := h
 obtain ⟨u, rfl, ru⟩ := vals1 r
 cases ru
 obtain ⟨its, rv, pl, hz⟩ := I.list hq
 have hl := rv.length
 have hlr : ys.length = rows.length := Paired.length hr
 have zl2 : zoV X.prog X.w s.heap its.toArray rows := fun i v hv => by
  have hv' : its[i]? = some v := by simpa using hv
  have hi : i < its.length := (List.getElem?_eq_some_iff.mp hv').1
  obtain ⟨hne, b, hb, hsq⟩ := L4.Paired.at' hr (i := i) (by omega) V.non ([] : List Int)
  have hy : ys[i]? = some (V.ref b) := by
   rw [List.getElem?_eq_getElem (by omega)]
   have : ys.getD i V.non = ys[i]'(by omega) := by simp [show i < ys.length by omega]
   rw [this] at hb; rw [hb]
  obtain ⟨v', e1, e2⟩ := rv.get hy
  rw [hv'] at e1; cases e1
  cases (show v = Value.ref b from e2)
  obtain ⟨its2, rv2, ⟨o, e, hcl, n, hd⟩, _⟩ := I.tuple hsq
  refine ⟨b, rows.getD i [], rfl, ?_, o, its2.toArray, n, e, hcl, hd, by simpa using zji rv2⟩
  simp [show i < rows.length by omega]
 have hh : X.A.handled = none := I.ok.hd hc
 refine zmV (A := X.A) hh hu pl.isList zl2 (by rw [List.size_toArray]; omega) fun h' tk xs S U k => ?_
 have kk : ∀ b o, s.heap.get? b = some o -> h'.get? b = some o := fun b o e => k b o (Heap.lt_size e) e
 have hfr : H s.heap.objs.size = none := I.hok.fresh (Nat.le_refl _)
 have hSO := S.at
 have vals : Vals (xs.map fun e => V.ref e.2) (xs.map fun e => Value.ref e.2) := by
  clear S U hSO
  induction xs with
  | nil => exact .nil
  | cons e xs ih => exact .cons rfl ih
 refine ⟨.ref s.heap.objs.size, _, I.laid (t' := tk) (o := .ext (zet X.w s.heap.objs.size (xs.map fun e => Value.ref e.2))) kk (Nat.le_refl _) ?_, rfl, q _ _ (xs.map fun e => V.ref e.2) (xs.map (·.1)) hfr vals ⟨fun i v r hv hr' => ?_, by simp, S.nd, fun r hr' => ?_⟩⟩
 ·obtain ⟨es, ep, t, St, e⟩ := id hSO
  exact ⟨hSO, ⟨_, St.get⟩, fun h1 h2 S1 k => S1.zmb k⟩
 ·rw [List.getElem?_map] at hv hr'
  obtain ⟨e, e1, rfl⟩ := Option.map_eq_some_iff.mp hv
  rw [e1] at hr'
  cases hr'
  obtain ⟨j, j1, j2, j3⟩ := U.own e (List.mem_of_getElem? e1)
  refine ⟨j, ?_, j3⟩
  have hj' : its[j]? = some (Value.ref e.2) := by simpa using j2
  have hjl : j < ys.length := by rw [hl]; exact (List.getElem?_eq_some_iff.mp hj').1
  obtain ⟨v', e2, e3⟩ := rv.get (List.getElem?_eq_getElem hjl)
  rw [hj'] at e2; cases e2
  obtain ⟨hne, b, hb, _⟩ := L4.Paired.at' hr (i := j) (by omega) V.non ([] : List Int)
  have : ys.getD j V.non = ys[j] := by simp [hjl]
  rw [this] at hb
  rw [hb] at e3
  cases (show Value.ref e.2 = Value.ref b from e3)
  rw [List.getElem?_eq_getElem hjl, hb]
 ·obtain ⟨j, hj⟩ := List.mem_iff_getElem?.mp hr'
  exact U.all j r (by have := (List.getElem?_eq_some_iff.mp hj).1; rw [List.size_toArray]; omega) hj
theorem Paired.mk {α β : Type} {F : α -> β -> Prop} : ∀ {l : List α} {m : List β}, l.length = m.length -> (∀ (i : Nat) a b, l[i]? = some a -> m[i]? = some b -> F a b) -> Paired F l m
 | [], [], _, _ => .nil
 | a :: l, b :: m, h, f => .cons (f 0 a b rfl rfl) (Paired.mk (by simpa using h) fun i x y hx hy => f (i + 1) x y (by simpa using hx) (by simpa using hy))
 | [], _ :: _, h, _ => by simp at h
 | _ :: _, [], h, _ => by simp at h
theorem zif (hc : X.calm = true) : zcf X (.builtin "sorted") (fun xs H Q => ∃ l us vs, ∃ rs : List (List Int), xs = [.ref l] /\ H l = some (.ext (zet X.w l us)) /\ Vals vs us /\ zm2 X.K H vs rs /\ rs.length < 64 /\
  ∀ (p : Addr) (idx : List Nat), H p = none -> idx.Perm (List.range vs.length) -> (idx.map fun i => rs.getD i []).Pairwise (fun a b => HT.lexLt b a = false) -> Q (.ref p) (upd H p (.lst (idx.map fun i => vs.getD i .non)))) := by
 intro pins s σ H xs us0 Q I r h
 obtain ⟨l, us, vs, rs, rfl, hl, hv, hr, h64, q⟩ := h
 obtain ⟨u, rfl, ru⟩ := vals1 r
 cases ru
 obtain ⟨⟨es, ep, t, S, eu⟩, -, -⟩ := (show zdk X.prog X.w H s.heap l (.ext (zet X.w l us)) from I.hok l _ hl)
 have hlen : es.size = us.length := by rw [<- eu]; simp
 have hvl := hv.length
 have hrl : vs.length = rs.length := Paired.length hr
 have hh : X.A.handled = none := I.ok.hd hc
 -- the order in which they come
 obtain ⟨ix, ix1, ix2⟩ : ∃ ix : List Nat, ix.Perm (List.range us.length) /\ (comes X.w l es ep).toList.map (·.2) = ix.map fun i => us.getD i Value.none := by
  have hp : ((comes X.w l es ep).toList.map (·.2)).Perm us := by rw [<- eu]; exact (zcH X.w l es ep).map _
  generalize (comes X.w l es ep).toList.map (·.2) = cs at hp
  clear eu hl hv hvl hlen
  induction hp with
  | nil => exact ⟨[], .refl _, rfl⟩
  | @cons x a b _ ih =>
   obtain ⟨ix, i1, i2⟩ := ih
   refine ⟨0 :: ix.map (· + 1), ?_, ?_⟩
   ·rw [List.length_cons, List.range_succ_eq_map]
    exact (i1.map _).cons 0
   ·rw [List.map_cons, List.map_map, i2]
    rfl
  | @swap x y a =>
   refine ⟨1 :: 0 :: (List.range a.length).map (· + 2), ?_, ?_⟩
   ·rw [List.length_cons, List.length_cons, List.range_succ_eq_map, List.range_succ_eq_map, List.map_cons, List.map_map]
    exact .swap _ _ _
   ·rw [List.map_cons, List.map_cons, List.map_map]
    refine congrArg _ (congrArg _ ?_)
    refine List.ext_getElem (by simp) fun i h1 h2 => ?_
    simp [h1]
  | @trans a b c _ _ ih1 ih2 =>
   obtain ⟨i1, p1, e1⟩ := ih1
   obtain ⟨i2, p2, e2⟩ := ih2
   have hlb : b.length = c.length := by rw [e2, List.length_map, p2.length_eq]; simp
   refine ⟨i1.map fun i => i2.getD i 0, ?_, ?_⟩
   ·refine (p1.map _).trans ?_
    have e : (List.range b.length).map (fun i => i2.getD i 0) = i2 := by
     have hl2 : i2.length = b.length := by rw [p2.length_eq, hlb]; simp
     rw [<- hl2]
     refine List.ext_getElem (by simp) fun i h1 h2 => ?_
     simp [h2]
    rw [e]; exact p2
   ·rw [e1, List.map_map]
    refine List.map_congr_left fun i hi => ?_
    have hi' : i < b.length := by simpa using p1.mem_iff.mp hi
    have hl2 : i < i2.length := by rw [p2.length_eq, <- hlb]; simpa using hi'
    show b.getD i _ = c.getD (i2.getD i 0) _
    rw [e2]
    simp [hl2]
 have hix : ∀ i ∈ ix, i < us.length := fun i hi => by simpa using ix1.mem_iff.mp hi
 have rows_at : ∀ h6 : Heap, (∀ b o, s.heap.get? b = some o -> h6.get? b = some o) -> L4.ze1 h6 ((comes X.w l es ep).toList.map (·.2)) (ix.map fun i => rs.getD i []) := fun h6 k => by
  rw [ix2]
  refine Paired.mk (by simp) fun j a b ha hb => ?_
  rw [List.getElem?_map] at ha hb
  obtain ⟨i, hi, rfl⟩ := Option.map_eq_some_iff.mp ha
  rw [hi] at hb
  cases hb
  have hil := hix i (List.mem_of_getElem? hi)
  obtain ⟨hne, b, hbv, hsq⟩ := L4.Paired.at' hr (i := i) (by omega) V.non ([] : List Int)
  obtain ⟨u', e1, e2⟩ := hv.get (i := i) (x := vs.getD i V.non) (by simp [show i < vs.length by omega])
  rw [hbv] at e2
  cases (show u' = Value.ref b from e2)
  obtain ⟨its2, rv2, ⟨o, e, hcl, n, hd⟩, _⟩ := I.tuple hsq
  have eg : us.getD i Value.none = Value.ref b := by simp [e1]
  refine ⟨hne, b, o, its2.toArray, n, eg, k _ _ e, hcl, hd, by simpa using intsAre_of rv2⟩
 have hcl : ((comes X.w l es ep).toList.map (·.2)).length = us.length := by rw [ix2, List.length_map, ix1.length_eq]; simp
 refine zgv (Out := L4.zqS ((comes X.w l es ep).toList.map (·.2)) (ix.map fun i => rs.getD i [])) hh S (by rw [hlen]; have : sizeLine = 16777216 := rfl; omega) (fun s6 h2 k => L4.zgc (rows_at _ k) (by rw [hcl, <- hlen]; exact h2) (by rw [hcl]; omega)) (fun h1 => ?_) fun out h' tk p ho hs hp k hat => ?_
 ·refine ⟨List.range ((comes X.w l es ep).toList.map (·.2)).length, .refl _, ?_, ?_⟩
  ·refine List.ext_getElem (by simp) fun i h1 h2 => ?_
   simp at h2
   simp [h2]
  ·rw [List.pairwise_map, List.pairwise_iff_getElem]
   intro i j hi hj hij
   rw [hcl] at hi hj
   simp at hi hj
   omega
 ·obtain ⟨idx, g1, g2, g3⟩ := ho
  obtain ⟨e, he⟩ := hat
  rw [hcl] at g1
  have hfr : H p = none := I.hok.fresh hp
  have hidx : ∀ i ∈ idx, i < us.length := fun i hi => by simpa using g1.mem_iff.mp hi
  have hxl : ix.length = us.length := by rw [ix1.length_eq]; simp
  let jx := idx.map fun i => ix.getD i 0
  have hjp : jx.Perm (List.range vs.length) := by
   rw [hvl]
   refine (g1.map _).trans ?_
   have e : (List.range us.length).map (fun i => ix.getD i 0) = ix := by
    rw [<- hxl]
    refine List.ext_getElem (by simp) fun i h1 h2 => ?_
    simp [h2]
   rw [e]; exact ix1
  have hjr : (jx.map fun i => rs.getD i []) = idx.map fun i => (ix.map fun i => rs.getD i []).getD i [] := by
   rw [List.map_map]
   refine List.map_congr_left fun i hi => ?_
   have := hidx i hi
   simp [show i < ix.length by omega]
  refine ⟨.ref p, _, I.laid (t' := tk) (o := .lst (jx.map fun i => vs.getD i .non)) k hp ?_, rfl, q p jx hfr hjp (by rw [hjr]; exact g3)⟩
  refine ⟨by rw [List.length_map, hjp.length_eq, List.length_range]; have : sizeLine = 16777216 := rfl; omega, out.toList, e, ?_, by simpa using he⟩
  rw [g2, ix2]
  refine Paired.mk (by simp [jx]) fun j a b ha hb => ?_
  rw [List.getElem?_map] at ha hb
  obtain ⟨i, hi, rfl⟩ := Option.map_eq_some_iff.mp hb
  simp only [jx, List.getElem?_map, hi, Option.map_some, Option.some.injEq] at ha
  have hil := hidx i (List.mem_of_getElem? hi)
  have hx : ix.getD i 0 < us.length := by
   have : ix.getD i 0 ∈ ix := by simp [show i < ix.length by omega]
   exact hix _ this
  obtain ⟨u', e1, e2⟩ := hv.get (i := ix.getD i 0) (x := vs.getD (ix.getD i 0) V.non) (by
   have hx' : ix.getD i 0 < vs.length := by omega
   generalize ix.getD i 0 = q at hx'
   rw [List.getD_eq_getElem?_getD, List.getElem?_eq_getElem hx']; rfl)
  subst ha
  have e3 : (ix.map fun i => us.getD i Value.none).getD i Value.none = u' := by
   simp [show i < ix.length by omega] at e1 ⊢
   simp [e1]
  rw [e3]; exact e2
end
end ST
namespace L5
open PySem PySem.Spec L2 L3
open PyProof.Rows hiding St
noncomputable def nub : List (List Int) -> List (List Int)
 | [] => []
 | r :: rs => if r ∈ nub rs then nub rs else r :: nub rs
theorem zf0 {r : List Int} : ∀ {rs : List (List Int)}, r ∈ nub rs ↔ r ∈ rs
 | [] => .rfl
 | x :: rs => by
  unfold nub
  split
  ·rename_i h
   rw [zf0, List.mem_cons]
   exact ⟨.inr, fun h' => h'.elim (fun e => e ▸ zf0.mp h) id⟩
  ·rw [List.mem_cons, List.mem_cons, zf0]
theorem zeU : ∀ rs : List (List Int), (nub rs).Nodup
 | [] => .nil
 | x :: rs => by
  unfold nub
  split
  ·exact zeU rs
  ·rename_i h
   exact List.nodup_cons.mpr ⟨h, zeU rs⟩
theorem zff : ∀ rs : List (List Int), (nub rs).length <= rs.length
 | [] => Nat.le_refl _
 | x :: rs => by
  unfold nub
  have := zff rs
  split <;> simp only [List.length_cons] <;> omega
def zb1 : RDn := fun ds S Q => match ds with
 | [.tup _] => False
 | [d] => ∃ rows : List (List Int), za7 d S = some (rows.map zht) /\ rows.length < 64 /\ (∀ r ∈ rows, r ≠ []) /\ ∀ l, S l = none -> Q (.ref l) (ups S l (.lst ((L4.zey (nub rows)).map zht)))
 | _ => False
noncomputable def zfG : List T -> Option T
 | [.lst ts] => (zgj ts).bind fun rs => if rs.length < 64 /\ ∀ r ∈ rs, r ≠ [] then some (.lst ((L4.zey (nub rs)).map zaV)) else none
 | _ => none
theorem zh8 : zhn RkF zfG zb1 := fun S Z ys z ds Q hz hv e hq => by
 unfold zfG at e
 split at e
 ·obtain ⟨d, rfl, h1⟩ := zl1 hv
  obtain ⟨rs, e1, e2⟩ := Option.bind_eq_some_iff.mp e
  split at e2
  ·rename_i hc
   cases e2
   cases ze9 e1
   obtain ⟨es, h2, h3⟩ := h1.seq rfl
   cases zd2.mp h3
   have key : ∃ rows : List (List Int), za7 d S = some (rows.map zht) /\ rows.length < 64 /\ (∀ r ∈ rows, r ≠ []) /\ ∀ l, S l = none -> Q (.ref l) (ups S l (.lst ((L4.zey (nub rows)).map zht))) :=
    ⟨rs, h2, hc.1, hc.2, fun l hl => hq _ _ (.new hl _) (zdO hz hl (zd2.mpr rfl))⟩
   obtain ⟨_, q | ⟨a, q, _⟩, _⟩ := h1.lst
   ·subst q; exact key
   ·subst q; exact key
  ·cases e2
 ·cases e
section
variable {X : Cx} {K : PySem.W.Frag} {e : Expr} {tA : TDA} {pos pos2 p p2 : Pos}
theorem zb1.mo : MoN zb1 := fun ds S Q Q' hq h => by
 unfold zb1 at h ⊢
 split at h
 ·exact h.elim
 ·obtain ⟨rows, h1, h2, h3, h4⟩ := h
  exact ⟨rows, h1, h2, h3, fun l hl => hq _ _ (h4 l hl)⟩
 ·exact h.elim
theorem zak.pick {H : Hp} {ys vs : List V} {rows rs : List (List Int)} (h : zak K H (rows.map zht) ys) (P : ST.zoY ys rows vs rs) : zak K H (rs.map zht) vs := by
 have key : ∀ (vs : List V) (rs : List (List Int)), vs.length = rs.length -> (∀ (i : Nat) v r, vs[i]? = some v -> rs[i]? = some r -> ∃ (j : Nat), ys[j]? = some v /\ rows[j]? = some r) -> zak K H (rs.map zht) vs := by
  intro vs
  induction vs with
  | nil => intro rs hl _; cases rs with
   | nil => exact .nil
   | cons _ _ => simp at hl
  | cons v vs ih => intro rs hl hp; cases rs with
   | nil => simp at hl
   | cons r rs =>
    refine .cons ?_ (ih rs (by simpa using hl) fun i v r hv hr => hp (i + 1) v r (by simpa using hv) (by simpa using hr))
    obtain ⟨j, j1, j2⟩ := hp 0 v r rfl rfl
    obtain ⟨x, e1, e2⟩ := h.get (i := j) (d := zht r) (by rw [List.getElem?_map, j2]; rfl)
    rw [j1] at e1; cases e1
    exact e2
 exact key vs rs P.len P.sub
theorem zoY.mem {ys vs : List V} {rows rs : List (List Int)} (P : ST.zoY ys rows vs rs) {r : List Int} : r ∈ rs ↔ r ∈ rows := by
 refine ⟨fun h => ?_, P.all r⟩
 obtain ⟨i, hi⟩ := List.mem_iff_getElem?.mp h
 have hl : i < vs.length := by rw [P.len]; exact (List.getElem?_eq_some_iff.mp hi).1
 obtain ⟨j, _, j2⟩ := P.sub i _ r (List.getElem?_eq_getElem hl) hi
 exact List.mem_of_getElem? j2
theorem zb1.fits {w : World} : zho K zb1 (fun xs H Q => ∃ p ys, ∃ rows : List (List Int), xs = [.ref p] /\ SqL K H p ys /\ ST.zm2 K H ys rows /\ rows.length < 64 /\
  ∀ (l : Addr) (us : List Value) (vs : List V) (rs : List (List Int)), H l = none -> Vals vs us -> ST.zoY ys rows vs rs ->
   ∃ l' us' vs', ∃ rs' : List (List Int), [V.ref l] = [.ref l'] /\ (upd H l (.ext (ST.zet w l us))) l' = some (.ext (ST.zet w l' us')) /\ Vals vs' us' /\ ST.zm2 K (upd H l (.ext (ST.zet w l us))) vs' rs' /\ rs'.length < 64 /\
    ∀ (p : Addr) (idx : List Nat), (upd H l (.ext (ST.zet w l us))) p = none -> idx.Perm (List.range vs'.length) -> (idx.map fun i => rs'.getD i []).Pairwise (fun a b => HT.lexLt b a = false) -> Q (.ref p) (upd (upd H l (.ext (ST.zet w l us))) p (.lst (idx.map fun i => vs'.getD i .non)))) := fun xs ds H S Q h0 h2 h => by
 unfold zb1 at h
 split at h
 ·exact h.elim
 ·rename_i d hn
  obtain ⟨x, hx, h1⟩ := h0.one; subst hx
  obtain ⟨rows, e, h64, hne, h⟩ := h
  obtain ⟨a, ys, rfl, g1, g2⟩ := zej h1 h2 e (fun ts z => hn ts z)
  refine ⟨a, ys, rows, rfl, g1, zcJ g2 hne, h64, fun l us vs rs hf hv P => ?_⟩
  have g3 := zak.pick g2 P
  have x1 : Ext H (upd H l (.ext (ST.zet w l us))) := .new hf _
  have hper : rs.Perm (nub rows) := (List.perm_ext_iff_of_nodup P.nd (zeU rows)).mpr fun r => by rw [zoY.mem P, zf0]
  refine ⟨l, us, vs, rs, rfl, zaA, hv, zcJ (zak.ext x1 _ g3) fun r hr => hne r ((zoY.mem P).mp hr), by rw [hper.length_eq]; have := zff rows; omega, fun p idx hp hi hs => ?_⟩
  rw [P.len] at hi
  have heq := L4.zfo ((zeW hi).trans hper) hs
  have hpl : p ≠ l := fun z => by subst z; rw [zaA] at hp; cases hp
  have hpH : H p = none := by rw [zbo hpl] at hp; exact hp
  have x2 : Ext (upd H l (.ext (ST.zet w l us))) (upd (upd H l (.ext (ST.zet w l us))) p (.lst (idx.map fun i => vs.getD i .non))) := .new hp _
  have r1 : zbV K (upd H l (.ext (ST.zet w l us))) S := h2.new hf
  refine h p (h2.none hpH) _ _ (by simp only [zau]) (x1.trans x2) (r1.ups x2 ⟨_, zaA, ?_⟩)
  rw [<- heq]
  exact zak.ext (x1.trans x2) _ (zak.perm g3 fun i h => by simpa using hi.mem_iff.mp h)
 ·exact h.elim
end
end L5
namespace ST
open PySem PySem.SetTable PyProof.Rows
theorem zlw {t : SetTable} {hs : List Int} (T : Tab t hs) (h : Int) : ∀ (f k K : Nat), k <= K -> K < k + f -> (way t.mask h K).j ∉ t.place.toList -> (∀ m < K, (way t.mask h m).j ∈ t.place.toList) -> probe.go t (fun _ => h + 1) h f (way t.mask h k) = some (.empty (way t.mask h K).j none)
 | 0, k, K, h1, h2, _, _ => by omega
 | f + 1, k, K, h1, h2, h3, h4 => by
  by_cases e : k = K
  ·subst e
   unfold probe.go
   rw [T.empty h3, zfK]
  ·obtain ⟨i, g, p1, _⟩ := T.at (h4 k (by omega))
   have ih := zlw T h f (k + 1) K (by omega) (by omega) h3 h4
   conv => lhs; unfold probe.go
   rw [T.live p1]
   dsimp only
   rw [if_neg (by intro q; have := eq_of_beq q; omega), zlS]
   exact ih
theorem zoH {t : SetTable} {hs : List Int} (T : Tab t hs) (hl : hs.length <= t.mask) (h : Int) : ∃ j, t.freeSlot h = some (j, false) /\ zrS t h j := by
 obtain ⟨K, k1, k2, k3⟩ := T.first hl h
 refine ⟨(way t.mask h K).j, ?_, ⟨k2, K, rfl, k3⟩⟩
 have g := zlw T h (10 * turns t.mask) 0 K (Nat.zero_le _) (by unfold turns; omega) k2 k3
 unfold SetTable.freeSlot
 have e : t.probe (fun _ => h + 1) h (t.probeStart h) = some (.empty (way t.mask h K).j none) := g
 rw [e]
 rfl
structure zkf (prog : Program) (w : World) (h : Heap) (a : Addr) (xs : List (Int × Tok)) (led : Bool) : Prop where
 ex : ∃ es ep t, h.get? a = some { cls := .type "set", dict := none, data := .set es ep t } /\ es.toList = xs.map (fun e => ((intKind prog w).hash e.1, Value.int e.1 e.2)) /\ Tab t (xs.map fun e => (intKind prog w).hash e.1) /\ t.led = led /\ t.plain = true /\ xs.length * 5 < t.mask * 3
 nd : (xs.map (·.1)).Nodup
section
variable {prog : Program} {w : World} {A : Around} {E : Value -> Shared -> Prop} {s : Shared}
theorem fits_of {es : Array (Int × Value)} {t : SetTable} {hs : List Int} {n : Nat} (h1 : es.size = n) (T : Tab t hs) (h2 : hs.length = n) (h3 : n <= t.mask) : t.fits es.size = true := by
 have l := T.len
 unfold SetTable.fits SetTable.fill
 rw [T.dum, h1, l, h2]
 simp
 omega
theorem zh7 {n m : Int} {t : Tok} : (intKind prog w).is n (.int m t) = true ↔ n = m := by
 constructor
 ·intro h
  obtain ⟨t', e⟩ := Value.isInt_shape (show Value.isInt n (.int m t) = true from h)
  cases e; rfl
 ·rintro rfl; exact intKind_is _ _ _ _
theorem zlA {es : Array (Int × Value)} {xs : List (Int × Tok)} (h : es.toList = xs.map (fun e => ((intKind prog w).hash e.1, Value.int e.1 e.2))) : ElemsOf (intKind prog w) es.toList := fun e he => by
 rw [h] at he
 obtain ⟨x, _, rfl⟩ := List.mem_map.mp he
 exact ⟨⟨x.1, zh7.mpr rfl, rfl⟩, rfl⟩
theorem zkL {es : Array (Int × Value)} {t : SetTable} {xs : List (Int × Tok)} {M wanted : Nat} (he : es.toList = xs.map (fun e => ((intKind prog w).hash e.1, Value.int e.1 e.2))) (hM : Mok M) (hw : sizeAbove wanted = M + 1) (hfew : xs.length * 5 < M * 3) :
  ∃ es' t', ∃ xs' : List (Int × Tok), relayAll t es wanted = (es', t', false) /\ es'.toList = xs'.map (fun e => ((intKind prog w).hash e.1, Value.int e.1 e.2)) /\ xs'.Perm xs /\ Tab t' (xs'.map fun e => (intKind prog w).hash e.1) /\ t'.mask = M /\ t'.led = t.led /\ t'.plain = t.plain /\ es'.size = es.size := by
 have hlen : es.size = xs.length := by have := congrArg List.length he; simpa using this
 have hhs : (es.map (·.1)).toList = xs.map fun e => (intKind prog w).hash e.1 := by rw [Array.toList_map, he, List.map_map]; rfl
 have hsz : (es.map (·.1)).size = xs.length := by rw [Array.size_map, hlen]
 obtain ⟨t', order, h1, h2, h3, h4, h5, h6, h7⟩ := zh5 hM t.finger (t.movedTo M) t.led t.plain (es.map (·.1)) (by rw [hsz]; omega)
 rw [hsz] at h6
 have hlt : ∀ k ∈ order.toList, k < xs.length := fun k hk => by simpa using h6.mem_iff.mp hk
 have hr : t.relaid (es.map (·.1)) wanted = some (t', order) := by
  unfold SetTable.relaid
  rw [hw, Nat.add_sub_cancel]; exact h1
 have hes' : (order.filterMap (es[·]?)).toList = (order.toList.filterMap fun k => xs[k]?).map fun e => ((intKind prog w).hash e.1, Value.int e.1 e.2) := by
  rw [Array.toList_filterMap, List.map_filterMap]
  congr 1
  funext k
  rw [<- Array.getElem?_toList, he, List.getElem?_map]
 have hperm : (order.toList.filterMap fun k => xs[k]?).Perm xs := (h6.filterMap _).trans (by rw [List.filterMap_getElem?_range_length])
 have hsz' : (order.filterMap (es[·]?)).size = es.size := by
  rw [<- Array.length_toList, hes', List.length_map, hperm.length_eq, hlen]
 have hT : Tab t' ((order.toList.filterMap fun k => xs[k]?).map fun e => (intKind prog w).hash e.1) := by
  rw [<- zgT xs (fun e => (intKind prog w).hash e.1) 0 order.toList hlt, <- hhs]
  exact h7
 refine ⟨_, t', _, ?_, hes', hperm, hT, h2, h4, h5, hsz'⟩
 have cov : coversAll order es.size = true := by
  unfold coversAll
  rw [List.isPerm_iff, hlen]
  exact h6
 have fit : t'.fits (order.filterMap (es[·]?)).size = true := fits_of (n := xs.length) (by rw [hsz', hlen]) hT (by rw [List.length_map, hperm.length_eq]) (by rw [h2]; omega)
 unfold relayAll
 rw [hr]
 dsimp only
 rw [cov, fit]
 rfl
theorem add_int {a : Addr} {xs : List (Int × Tok)} {n : Int} {tk : Tok} {led : Bool} {Q : Bool -> Shared -> Prop} (S : zkf prog w s.heap a xs led) (hn : xs.length < 70)
  (h : ∀ h' xs' r, Heap.SameBut a s.heap h' -> zkf prog w h' a xs' led -> (n ∈ xs.map (·.1) /\ xs' = xs \/ n ∉ xs.map (·.1) /\ xs'.Perm (xs ++ [(n, tk)])) -> Q r { s with heap := h' }) :
  wpAny (model prog w) A (setAddHashed a (.int n tk) ((intKind prog w).hash n)) Q E s := by
 have S0 := S
 obtain ⟨⟨es, ep, t, ho, he, T, hled, hpl, hfew⟩, hnd⟩ := S
 have hlen : es.size = xs.length := by have := congrArg List.length he; simpa using this
 have hm7 : 7 <= t.mask /\ t.mask <= 127 := by rcases T.mask with e | e | e <;> omega
 have fit : t.fits es.size = true := fits_of (n := xs.length) hlen T (by simp) (by omega)
 have hel := zlA (prog := prog) (w := w) he
 unfold setAddHashed setAddHashedIn
 refine wpAny_holding (wpAny_bind (wpAny_setState_of ho rfl fit ?_))
 dsimp only
 have bs : byScan (.int n tk) es = true := by
  have h1 : decide (es.size < scanBound) = true := decide_eq_true (by unfold scanBound; omega)
  have h2 : es.all (·.2.scannable) = true := by
   rw [Array.all_eq_true_iff_forall_mem]
   intro e hm
   exact (hel e (by simpa using hm)).2
  unfold byScan
  rw [h1, h2]
  rfl
 rw [if_pos bs]
 refine wpAny_bind ?_
 unfold setAddByScan
 refine wpAny_bind (wpAny_rule (wpAny_bind (wpAny_setScan_of (k := n) (zh7.mpr rfl) ho rfl fit hel ?_)))
 have hfind : (es.toList.findIdx? (fun e => (intKind prog w).is n e.2)).isSome = true ↔ n ∈ xs.map (·.1) := by
  rw [he, List.findIdx?_isSome, List.any_eq_true]
  constructor
  ·rintro ⟨e, hm, q⟩
   obtain ⟨x, hx, rfl⟩ := List.mem_map.mp hm
   exact List.mem_map.mpr ⟨x, hx, (zh7.mp q).symm⟩
  ·intro hm
   obtain ⟨x, hx, rfl⟩ := List.mem_map.mp hm
   exact ⟨_, List.mem_map.mpr ⟨x, hx, rfl⟩, zh7.mpr rfl⟩
 cases hc : es.toList.findIdx? (fun e => (intKind prog w).is n e.2) with
 | some j =>
  dsimp only
  have hm := hfind.mp (by rw [hc]; rfl)
  refine wpAny_pure ?_
  dsimp only
  exact wpAny_pure (h s.heap xs false ⟨rfl, fun _ _ => rfl⟩ S0 (.inl ⟨hm, rfl⟩))
 | none =>
  dsimp only
  have hm : n ∉ xs.map (·.1) := fun q => by have := hfind.mpr q; rw [hc] at this; cases this
  obtain ⟨j, fs, F⟩ := zoH T (by rw [List.length_map]; omega) ((intKind prog w).hash n)
  obtain ⟨p1, p2, p3⟩ := T.put F
  rw [List.length_map] at p1
  have hpt : (t.put j).1.plain = true := by rw [p2]; exact hpl
  have hmt : (t.put j).1.mask = t.mask := by rw [p2]
  have hlt : (t.put j).1.led = led := by rw [p2]; exact hled
  generalize hT : (t.put j) = P at *
  obtain ⟨t1, p⟩ := P
  dsimp only at *
  let xs1 := xs.take p ++ (n, tk) :: xs.drop p
  have hperm : xs1.Perm (xs ++ [(n, tk)]) := by
   have e : xs.take p ++ xs.drop p = xs := List.take_append_drop p xs
   have : xs1.Perm ((n, tk) :: (xs.take p ++ xs.drop p)) := List.perm_middle
   rw [e] at this
   exact this.trans (List.perm_append_singleton _ _).symm
  have hl1 : xs1.length = xs.length + 1 := by rw [hperm.length_eq]; simp
  have hes1 : (insertAt es p ((intKind prog w).hash n, Value.int n tk)).toList = xs1.map fun e => ((intKind prog w).hash e.1, Value.int e.1 e.2) := by
   rw [toList_insertAt, he]
   simp [xs1, List.map_take, List.map_drop]
  have hsz1 : (insertAt es p ((intKind prog w).hash n, Value.int n tk)).size = xs.length + 1 := by rw [<- Array.length_toList, hes1, List.length_map, hl1]
  have T1 : Tab t1 (xs1.map fun e => (intKind prog w).hash e.1) := by
   have : xs1.map (fun e => (intKind prog w).hash e.1) = (xs.map fun e => (intKind prog w).hash e.1).take p ++ (intKind prog w).hash n :: (xs.map fun e => (intKind prog w).hash e.1).drop p := by simp [xs1, List.map_take, List.map_drop]
   rw [this]; exact p3
  have fit1 : t1.fits (insertAt es p ((intKind prog w).hash n, Value.int n tk)).size = true := fits_of (n := xs.length + 1) hsz1 T1 (by rw [List.length_map, hl1]) (by rw [hmt]; omega)
  have hlay : layNew t es ((intKind prog w).hash n) (.int n tk) = (insertAt es p ((intKind prog w).hash n, Value.int n tk), t1, false, false) := by
   unfold layNew
   rw [fs]
   dsimp only
   rw [hT]
   dsimp only
   unfold SetTable.orStandIn
   rw [fit1]
   rfl
  have hsl : (insertAt es p ((intKind prog w).hash n, Value.int n tk)).size <= sizeLine := by
   rw [hsz1]
   have : sizeLine = 16777216 := rfl
   omega
  have hnd1 : (xs1.map (·.1)).Nodup := by
   refine (hperm.map _).nodup_iff.mpr ?_
   rw [List.map_append, List.nodup_append]
   refine ⟨hnd, by simp, fun x hx y hy => ?_⟩
   simp at hy
   subst hy
   exact fun e => hm (e ▸ hx)
  have ho1 := zgR (es' := insertAt es p ((intKind prog w).hash n, Value.int n tk)) (t' := t1) ho
  have sb := Heap.SameBut.update s.heap a (Obj.putSet (insertAt es p ((intKind prog w).hash n, Value.int n tk)) t1)
  have hfill : t1.fill = xs.length + 1 := by
   have l := T1.len
   rw [List.length_map, hl1] at l
   unfold SetTable.fill
   rw [T1.dum, l]
   simp
  rw [hlay]
  dsimp only
  refine wpAny_bind (m := pure ()) (wpAny_pure ?_)
  rw [hpt]
  simp only [if_true]
  refine wpAny_bind (m := pure true) (wpAny_pure ?_)
  simp only [if_true]
  refine wpAny_bind (wpAny_storeSet_of ho rfl ?_ hsl)
  by_cases hf : t1.tooFull = true
  ·rw [hf]
   simp only [Bool.not_false, Bool.and_self, if_true]
   have hfull : t.mask * 3 <= (xs.length + 1) * 5 := by
    have := hf
    unfold SetTable.tooFull at this
    rw [hfill, hmt] at this
    simpa using this
   obtain ⟨M', g1, g2, g3⟩ := zpk xs.length t.mask T.mask hfew hfull hn
   obtain ⟨es2, t2, xs2, r1, r2, r3, r4, r5, r6, r7, r8⟩ := zkL (prog := prog) (w := w) (t := t1) hes1 g1 (wanted := grown (insertAt es p ((intKind prog w).hash n, Value.int n tk)).size) (by rw [hsz1]; exact g2) (by rw [hl1]; exact g3)
   rw [r1]
   dsimp only
   refine wpAny_bind (m := pure ()) (wpAny_pure (wpAny_bind (wpAny_storeSet_of ho1 rfl ?_ (by rw [r8]; exact hsl))))
   refine wpAny_pure ?_
   dsimp only
   refine wpAny_pure (h _ xs2 true (sb.trans (Heap.SameBut.update _ a _)) ⟨⟨es2, ep + 1 + 1, t2, zgR ho1, r2, r4, by rw [r6]; exact hlt, by rw [r7]; exact hpt, by rw [r3.length_eq, hl1, r5]; exact g3⟩, (r3.map _).nodup_iff.mpr hnd1⟩ (.inr ⟨hm, r3.trans hperm⟩))
  ·have hf' : t1.tooFull = false := by simpa using hf
   rw [hf']
   simp only [Bool.not_false, Bool.and_false, Bool.false_eq_true, if_false]
   have hfull : (xs.length + 1) * 5 < t.mask * 3 := by
    have := hf'
    unfold SetTable.tooFull at this
    rw [hfill, hmt] at this
    simpa using this
   refine wpAny_pure ?_
   dsimp only
   exact wpAny_pure (h _ xs1 true sb ⟨⟨_, ep + 1, t1, ho1, hes1, T1, hlt, hpt, by rw [hl1, hmt]; exact hfull⟩, hnd1⟩ (.inr ⟨hm, hperm⟩))
end
end ST
namespace ST
open PySem PySem.SetTable PyProof.Rows
structure UpI (its : Array Value) (ns : List Int) (i : Nat) (xs : List (Int × Tok)) : Prop where
 own : ∀ e ∈ xs, ∃ j, j < i /\ ns[j]? = some e.1
 all : ∀ (j : Nat) r, j < i -> ns[j]? = some r -> r ∈ xs.map (·.1)
theorem zfY : ∀ (l m : List Int), l.Nodup -> (∀ x ∈ l, x ∈ m) -> l.length <= m.length
 | [], m, _, _ => Nat.zero_le _
 | x :: l, m, hn, hs => by
  have h1 := List.nodup_cons.mp hn
  have hx := hs x List.mem_cons_self
  have := zfY l (m.erase x) h1.2 fun z hz => (List.mem_erase_of_ne (fun e : z = x => h1.1 (by rw [<- e]; exact hz))).mpr (hs z (List.mem_cons_of_mem _ hz))
  rw [List.length_erase_of_mem hx] at this
  have := List.length_pos_of_mem hx
  simp only [List.length_cons]; omega
theorem UpI.len {its : Array Value} {ns : List Int} {i : Nat} {xs : List (Int × Tok)} (U : UpI its ns i xs) (nd : (xs.map (·.1)).Nodup) : xs.length <= i := by
 have := zfY (xs.map (·.1)) ((List.range i).map fun j => ns.getD j 0) nd fun x hx => by
  obtain ⟨e, he, rfl⟩ := List.mem_map.mp hx
  obtain ⟨j, h1, h3⟩ := U.own e he
  exact List.mem_map.mpr ⟨j, List.mem_range.mpr h1, by rw [List.getD_eq_getElem?_getD, h3]; rfl⟩
 simpa using this
theorem UpI.step {its : Array Value} {ns : List Int} {i : Nat} {xs xs' : List (Int × Tok)} {n : Int} {t : Tok} (U : UpI its ns i xs) (hr : ns[i]? = some n)
  (h : n ∈ xs.map (·.1) /\ xs' = xs \/ n ∉ xs.map (·.1) /\ xs'.Perm (xs ++ [(n, t)])) : UpI its ns (i + 1) xs' := by
 have eqi : ∀ j : Nat, j < i + 1 -> ¬ j < i -> j = i := fun j a b => by omega
 rcases h with ⟨hm, rfl⟩ | ⟨_, hp⟩
 ·refine ⟨fun e he => ?_, fun j r hj hrj => ?_⟩
  ·obtain ⟨j, h1, h2⟩ := U.own e he
   exact ⟨j, Nat.lt_succ_of_lt h1, h2⟩
  ·by_cases q : j < i
   ·exact U.all j r q hrj
   ·rw [eqi j hj q, hr] at hrj; cases hrj; exact hm
 ·refine ⟨fun e he => ?_, fun j r hj hrj => ?_⟩
  ·rcases List.mem_append.mp (hp.mem_iff.mp he) with q | q
   ·obtain ⟨j, h1, h2⟩ := U.own e q
    exact ⟨j, Nat.lt_succ_of_lt h1, h2⟩
   ·cases List.mem_singleton.mp q
    exact ⟨i, Nat.lt_succ_self i, hr⟩
  ·rw [(hp.map (·.1)).mem_iff, List.map_append]
   by_cases q : j < i
   ·exact List.mem_append_left _ (U.all j r q hrj)
   ·rw [eqi j hj q, hr] at hrj; cases hrj
    exact List.mem_append_right _ List.mem_cons_self
def Nums (its : Array Value) (ns : List Int) : Prop := ∀ (i : Nat) v, its[i]? = some v -> ∃ n t, v = .int n t /\ ns[i]? = some n
section
variable {prog : Program} {w : World} {A : Around} {R : Result -> Shared -> Prop} {I : Addr} {fp wr : List Addr} {G : Array GenState -> Array GenState -> Prop} {n : Nat} {P : Nat -> Value -> Prop} {St : Nat -> Shared -> Prop}
theorem zkf.keep {h h' : Heap} {a : Addr} {xs : List (Int × Tok)} {led : Bool} (S : zkf prog w h a xs led) (k : ∀ o, h.get? a = some o -> h'.get? a = some o) : zkf prog w h' a xs led :=
 let ⟨⟨es, ep, t, ho, r⟩, nd⟩ := S; ⟨⟨es, ep, t, k _ ho, r⟩, nd⟩
theorem zla (W : WalksS prog w A.in1 I fp wr G n (fun i v => P i v) St) (Sa : Addr) (hSf : Sa ∉ fp) {its : Array Value} {ns : List Int} (hP : ∀ i v, P i v -> its[i]? = some v) (hn : n < 70) (led : Bool) (hN : Nums its ns) :
  ∀ (k i : Nat) (s : Shared) (xs : List (Int × Tok)), n - i = k -> i <= n -> St i s -> zkf prog w s.heap Sa xs led -> UpI its ns i xs ->
   (∀ s' xs', Moved (Sa :: wr) G s s' -> zkf prog w s'.heap Sa xs' led -> UpI its ns n xs' -> R (.ok (.ret .none)) s') ->
   codeAny (model prog w) A (.builtin "set.update.loop" ⟨[.ref Sa, .ref I], []⟩) R s := by
 have hSw : Sa ∉ wr := fun z => hSf (W.sub _ z)
 have more : ∀ b ∈ wr, b ∈ Sa :: wr := fun b hb => List.mem_cons_of_mem _ hb
 intro k
 induction k with
 | zero =>
  intro i s xs hk hi hst hS hU hR
  have e : i = n := by omega
  subst e
  refine codeAny_builtin F.entry_set_update_loop ?_
  rw [Around.under_plainId F.plain_set_update_loop _]
  show wpAny _ A.in1 (pyNext (.ref I) >>= _) _ _ s
  exact wpAny_bind (W.done s _ _ hst fun s' hm => wpAny_pure (hR s' xs (hm.mono more) (hS.keep fun o e => hm.heap _ o hSw e) hU))
 | succ k ih =>
  intro i s xs hk hi hst hS hU hR
  have hlt : i < n := by omega
  refine codeAny_builtin F.entry_set_update_loop ?_
  rw [Around.under_plainId F.plain_set_update_loop _]
  show wpAny _ A.in1 (pyNext (.ref I) >>= _) _ _ s
  refine wpAny_bind (W.item i s _ _ hlt hst fun v s1 hPv hst1 hm => ?_)
  obtain ⟨m, t, rfl, hr⟩ := hN i v (hP i v hPv)
  have S1 : zkf prog w s1.heap Sa xs led := hS.keep fun o e => hm.heap _ o hSw e
  have hl : xs.length < 70 := by have := hU.len hS.nd; omega
  show wpAny _ A.in1 (holding [Value.int m t] (setAdd Sa (.int m t)) >>= _) _ _ s1
  refine wpAny_bind (wpAny_holding ?_)
  unfold setAdd
  refine wpAny_holding (wpAny_bind ((intKind prog w).pyHash (A := A.in1) (k := m) (zh7.mpr rfl) ?_))
  refine add_int (s := { s1 with toks := s1.toks + 1 }) (A := A.in1) S1 hl fun h' xs' rr sb S' hx => ?_
  have fr := W.frame (i + 1) s1 h' (s1.toks + 1) hst1 (Nat.le_add_right _ _) fun c hc o e => (sb.2 c (fun z : c = Sa => hSf (z ▸ hc))).trans e
  refine wpAny_pure ⟨plainId_quiet F.plain_set_update_loop _, ih (i + 1) _ xs' (by omega) hlt fr S' (hU.step hr hx) fun s2 xs2 hm2 S2 U2 => ?_⟩
  refine hR s2 xs2 (Moved.trans W.gtrans ((hm.mono more).then_heap (Nat.le_add_right _ _) fun c o hc e => ?_) hm2) S2 U2
  exact (sb.2 c (fun z => hc (z ▸ List.mem_cons_self))).trans e
end
end ST
namespace ST
open PySem PySem.SetTable PyProof.Rows
section
variable {prog : Program} {w : World} {A : Around} {E : Value -> Shared -> Prop} {s : Shared}
theorem zkF {h : Heap} {a : Addr} (ho : h.get? a = some (ze7 w)) : zkf prog w h a [] (zfh w) :=
 ⟨⟨#[], 0, _, ho, rfl, ⟨.inl rfl, rfl, rfl, .nil, fun j hj => (by cases hj), fun i g j hg => (by cases hg)⟩, rfl, rfl, by show 0 * 5 < 7 * 3; omega⟩, .nil⟩
set_option maxRecDepth 100000 in
set_option maxHeartbeats 6400000 in
theorem zlK {l : Addr} {its : Array Value} {ns : List Int} {Q : Value -> Shared -> Prop} (hh : A.handled = none) (hl : s.heap.IsList l its) (hT : Nums its ns) (hn : its.size < 70)
  (h : ∀ (h' : Heap) (tk : Nat) xs, zkf prog w h' s.heap.objs.size xs (zfh w) -> UpI its ns its.size xs -> (∀ b o, b < s.heap.objs.size -> s.heap.get? b = some o -> h'.get? b = some o) -> Q (.ref s.heap.objs.size) { s with heap := h', toks := tk }) :
  wpAny (model prog w) A (call (.type "set") [.ref l]) Q E s := by
 obtain ⟨c, tl, hmro⟩ := F.called_set.mro
 have made := F.called_set.made
 have subm := F.called_set.sub
 refine wpAny_call (codeAny_of_tree ?_)
 show wpAny _ _ (callAny (.type "set") _) _ _ _
 refine wpAny_pure ⟨Code.quiet_builtin _ (by decide +kernel), codeAny_builtin F.entry_type_call ?_⟩
 rw [Around.under_plain (weight_type_call_type "set" [.ref l] []) rfl]
 have nt := F.called_set.notType
 have cc := F.called_set.canCreate
 have tc := F.typeCall_set_1 (.ref l)
 repeat (any_goals (first | assumption | wp_step))
 refine codeAny_mono (zjo (.ref l) (E := E) (Q := fun obj s₁ => obj = .ref s.heap.objs.size /\ s₁ = { s with heap := s.heap.push (ze7 w) }) ⟨rfl, rfl⟩) fun r s₁ hr => ?_
 cases r with
 | error e => exact hr
 | ok fl =>
  cases fl with
  | ret obj =>
   obtain ⟨rfl, rfl⟩ := hr
   have hS : (s.heap.push (ze7 w)).get? s.heap.objs.size = some (ze7 w) := Heap.get?_push_size _ rfl
   have hTy : Shared.TypeIs { s with heap := s.heap.push (ze7 w) } (.ref s.heap.objs.size) "set" := ⟨_, hS, rfl⟩
   have li := F.called_set.init.lookup
   have bi := F.called_set.init.bind (.ref s.heap.objs.size)
   repeat (any_goals (first | assumption | wp_step))
   let s1 : Shared := { s with heap := s.heap.push (ze7 w) }
   refine codeAny_mono (codeAny_call_builtin (R := wants (fun r s₂ => r = .none /\ ∃ h' tk xs, s₂ = { s with heap := h', toks := tk } /\ zkf prog w h' s.heap.objs.size xs (zfh w) /\ UpI its ns its.size xs /\
     ∀ b o, b < s.heap.objs.size -> s.heap.get? b = some o -> h'.get? b = some o) E) F.called_set.init.plain F.entry_set_init (check_set_init_1 hTy ?_)) fun r₂ s₂ hr₂ => ?_
   ·obtain ⟨⟨ocls, odict, odata, oslots⟩, hol, hcl, nl, hdl⟩ := id hl
    simp only at hcl hdl
    subst hcl hdl
    have hol1 : (s.heap.push (ze7 w)).get? l = some { cls := .type "list", dict := odict, data := .seq its nl, slots := oslots } := Heap.get?_push_of_some _ hol
    have sls := F.sub_list_set
    have slf := F.sub_list_frozenset
    have nd : (Value.type "list" == Value.type "dict") = false := by decide
    have hl1 : (s.heap.push (ze7 w)).IsList l its := ⟨_, hol1, rfl, nl, rfl⟩
    unfold Builtin.«set.__init__» noKeywords Builtin.Frozenset.updateFrom
    generalize hPI : pyIter = PI
    unfold ze7 at *
    wp_walk
    subst hPI
    refine wpAny_pyIter_list hl1 (wpAny_bind (wpAny_runValue ?_))
    have hlS : l < s.heap.objs.size := Heap.lt_size hol
    have hsz : (s.heap.push (ze7 w)).objs.size = s.heap.objs.size + 1 := Heap.size_push _ _
    have hneI : l ≠ (s.heap.push (ze7 w)).objs.size := by rw [hsz]; exact Nat.ne_of_lt (Nat.lt_succ_of_lt hlS)
    have szne : s.heap.objs.size ≠ (s.heap.push (ze7 w)).objs.size := by rw [hsz]; exact Nat.ne_of_lt (Nat.lt_succ_self _)
    have low : ∀ b : Addr, b < s.heap.objs.size -> b ≠ (s.heap.push (ze7 w)).objs.size := fun b hb => by rw [hsz]; exact Nat.ne_of_lt (Nat.lt_succ_of_lt hb)
    refine zla (A := A.in1.in1) (P := fun i v => its[i]? = some v) ((Walks.list (A := A.in1.in1.in1) (by simp [hh]) _ l hneI its).toS) s.heap.objs.size ?_ (its := its) (ns := ns) (fun _ _ q => q) hn (zfh w) hT its.size 0 _ [] (by omega) (Nat.zero_le _)
     ⟨⟨_, Heap.get?_push_size _ rfl, rfl, rfl⟩, hl1.push _⟩ (zkF (w := w) (Heap.get?_push_of_some _ hS)) ⟨fun e he => (by cases he), fun j r hj => (by omega)⟩ ?_
    ·intro hm
     rcases List.mem_cons.mp hm with q | q
     ·exact szne q
     ·exact Nat.ne_of_gt hlS (List.mem_singleton.mp q)
    ·intro s' xs' hm S' U'
     obtain ⟨h', g', d', tk', os'⟩ := s'
     obtain rfl : g' = s.gens := hm.gens
     obtain rfl : d' = s.drawn := hm.drawn
     obtain rfl : os' = s.os := hm.os
     refine wpAny_pure (wpAny_pure ⟨rfl, h', tk', xs', rfl, S', U', fun b o hb e => ?_⟩)
     refine hm.heap b o (fun q => ?_) (Heap.get?_push_of_some _ (Heap.get?_push_of_some _ e))
     rcases List.mem_cons.mp q with q | q
     ·exact Nat.ne_of_lt hb q
     ·exact low b hb (List.mem_singleton.mp q)
   ·cases r₂ with
    | error e => exact hr₂
    | ok fl₂ =>
     cases fl₂ with
     | ret r =>
      obtain ⟨rfl, h', tk, xs, rfl, g1, g2, g3⟩ := hr₂
      repeat (any_goals (first | assumption | wp_step))
      exact h h' tk xs g1 g2 g3
     | _ => exact hr₂.elim
  | _ => exact hr.elim
end
end ST
namespace L4
open PySem PyProof.Rows
theorem zlH {prog : Program} {w : World} {A : Around} {E : Value -> Shared -> Prop} {s : Shared} {vs : List Value} {ns : List Int} (hI : IntsAre vs ns) (h2 : 2 <= vs.length) (h64 : vs.length < 64) :
  Core prog w A E vs (fun out => ∃ ns', IntsAre out.toList ns' /\ ns'.Perm ns /\ ns'.Pairwise (· <= ·)) s := by
 obtain ⟨v1, v2, rest, rfl⟩ : ∃ v1 v2 rest, vs = v1 :: v2 :: rest := by
  match vs, h2 with
  | v1 :: v2 :: rest, _ => exact ⟨v1, v2, rest, rfl⟩
 unfold Core
 rw [keyKind_ints hI]
 refine wpAny_pure ⟨rfl, ?_⟩
 refine wpAny_mono (wpS_sortRuns (a₀ := pairsOf (v1 :: v2 :: rest)) (st := SortSt.mk' oneType' ((v1 :: v2 :: rest).toArray.zip (v1 :: v2 :: rest).toArray) #[] 7 none)
   (Q := fun _ st' => (arrOf st').Perm (pairsOf (v1 :: v2 :: rest)) /\ failedOf st' = none /\ SortedTo (arrOf st') (pairsOf (v1 :: v2 :: rest)).size)
   hI.intKeys ⟨Array.Perm.refl _, rfl, rfl, rfl⟩ (by rw [pairsOf_size]; simp) (by rw [pairsOf_size]; exact h64) fun st' a1 a2 a3 => ⟨a1, a2, a3⟩) ?_ fun _ _ e => e
 rintro ⟨⟨⟩, st'⟩ s' ⟨rfl, hp, hf, hs⟩
 exact ⟨rfl, hf, sorted_out hI hp hs, by rw [hp.size_eq, pairsOf_size]⟩
end L4
namespace L5
open PySem PySem.Spec L2 L3
open PyProof.Rows hiding St
structure Bq (mg : Str -> Option Value) : Prop where
 set : mg "set" = none
 zip : mg "zip" = none
 enumerate : mg "enumerate" = none
section
variable {X : Cx} {K : PySem.W.Frag} {a b c e : Expr} {es : List Expr} {ta tb tc te : TDE} {tA : TDA} {pos p : Pos} {fa fb fc : Ev -> Option T}
def ze0 (f g : RD2) (ta tb tc : TDE) : TDE := fun δ S Q => ta δ S fun x S1 => tb δ S1 fun y S2 => f x y S2 fun z S3 => match z with
 | .bl k => if k = true then tc δ S3 fun w S4 => g y w S4 Q else Q (.bl false) S3
 | _ => False
theorem ze0.mo {f g : RD2} (hf : MoR f) (hg : MoR g) (ha : MoE ta) (hb : MoE tb) (hc : MoE tc) : MoE (ze0 f g ta tb tc) := fun δ S Q Q' hq h =>
 ha δ S _ _ (fun x S1 h => hb δ S1 _ _ (fun y S2 h => hf x y S2 _ _ (fun z S3 h => by
  cases z <;> first
   | exact zcT (hc δ S3 _ _ fun w S4 h => hg y w S4 _ _ hq h) (hq _ _) h
   | exact h) h) h) h
theorem zkt {f g : RD2} {r r' : R2} (hr : zcZ K f r) (hr' : zcZ K g r') (hf : MoR f) (hg : MoR g) (ha : MoE ta) (hb : MoE tb) (hc : MoE tc) {σ : St} {H : Hp} {Q : VK} (h : upE K (ze0 f g ta tb tc) σ H Q) : zkv r r' (upE K ta) (upE K tb) (upE K tc) σ H Q := by
 obtain ⟨δ, S, r1, r2, h⟩ := h
 refine upE.go ha r1 r2 h fun x S1 v H1 h1 q1 e1 p1 => ?_
 refine upE.go hb (r1.ext e1) p1 h1 fun y S2 w H2 h2 q2 e2 p2 => ?_
 refine hr v w x y H2 S2 _ (zau.ext e2 x q1) q2 p2 (hf x y S2 _ _ (fun d S3 z v3 H3 q3 e3 p3 => ?_) h2)
 cases d with
 | bl k =>
  simp only [zau] at q3
  refine ⟨k, q3, zcT (fun z => ?_) (fun z => ?_) z⟩
  ·refine upE.go hc (r1.ext ((e1.trans e2).trans e3)) p3 z fun w4 S4 v4 H4 h4 q4 e4 p4 => ?_
   exact hr' w v4 y w4 H4 S4 Q (zau.ext (e3.trans e4) y q2) q4 p4 (hg y w4 S4 _ _ (fun d S' z => z.ext (((e1.trans e2).trans e3).trans e4)) h4)
  ·exact z _ H3 (by simp only [zau]) ((e1.trans e2).trans e3) p3
 | non => exact z.elim
 | int _ => exact z.elim
 | str _ => exact z.elim
 | tup _ => exact z.elim
 | rol _ => exact z.elim
 | ref _ => exact z.elim
@[simp] noncomputable def chS (f g : T -> T -> Option T) (fa fb fc : Ev -> Option T) : Ev -> Option T := fun ρ => (fa ρ).bind fun x => (fb ρ).bind fun y => (f x y).bind fun b => match b with
 | .bl k => if k = true then (fc ρ).bind fun z => g y z else some (.bl false)
 | _ => none
theorem zqk {f g : T -> T -> Option T} {F G : RD2} (hf : Good2 RkF f F) (hg : Good2 RkF g G) (ha : OkR fa ta) (hb : OkR fb tb) (hc : OkR fc tc) : OkF (chS f g fa fb fc) (ze0 F G ta tb tc) := fun S Z δ ρ y Q hE e hq => by
 obtain ⟨x1, e1, e⟩ := Option.bind_eq_some_iff.mp e
 obtain ⟨x2, e2, e⟩ := Option.bind_eq_some_iff.mp e
 obtain ⟨b, e3, e⟩ := Option.bind_eq_some_iff.mp e
 refine ha S Z δ ρ x1 _ hE e1 fun d1 S1 s1 r1 => ?_
 refine hb S1 Z δ ρ x2 _ (hE.grow s1) e2 fun d2 S2 s2 r2 => ?_
 refine hf S2 Z x1 x2 b d1 d2 _ (hE.grow (s1.trans s2)).zd (Vw.grow r1 s2) r2 e3 fun c S3 s3 r3 => ?_
 split at e
 ·have := r3.1
  simp only [Sn] at this
  subst this
  split at e
  ·rename_i hk
   obtain ⟨x4, e4, e5⟩ := Option.bind_eq_some_iff.mp e
   dsimp only; rw [if_pos hk]
   refine hc S3 Z δ ρ x4 _ (hE.grow ((s1.trans s2).trans s3)) e4 fun d4 S4 s4 r4 => ?_
   exact hg S4 Z x2 x4 y d2 d4 Q (hE.grow (((s1.trans s2).trans s3).trans s4)).zd (Vw.grow r2 (s3.trans s4)) r4 e5 fun c' S5 s5 r5 => hq c' S5 ((((s1.trans s2).trans s3).trans s4).trans s5) (Cl.cl (((s1.trans s2).trans s3).trans s4) r5)
  ·rename_i hk
   dsimp only; rw [if_neg hk]
   cases e
   exact hq _ S3 ((s1.trans s2).trans s3) (Cl.of (fun _ => nofun) zei)
 ·cases e
theorem zrq {op op' : CmpOp} {f g : RD2} {r r' : R2} (ho : OpR X (compareOp op) r) (ho' : OpR X (compareOp op') r') (hr : zcZ X.K f r) (hr' : zcZ X.K g r') (hf : MoR f) (hg : MoR g) (ha : PD X a ta) (hb : PD X b tb) (hc : PD X c tc)
  (hm : lastMarks [op, op'] [b, c] = false := by with_unfolding_all rfl) : PD X (.Compare a [op, op'] [b, c] pos) (ze0 f g ta tb tc) :=
 ⟨ze0.mo hf hg ha.mo hb.mo hc.mo, PE.imp (zms ho ho' ha.pe hb.pe hc.pe hm) fun _ _ _ h => zkt hr hr' hf hg ha.mo hb.mo hc.mo h⟩
theorem zpU {op op' : CmpOp} {f g : RD2} {r r' : R2} (ho : OpR X (compareOp op) r) (ho' : OpR X (compareOp op') r') (hr : zcZ X.K f r) (hr' : zcZ X.K g r') (hf : MoR f) (hg : MoR g) (ha : PD X a ta) (hb : PD X b tb) (hc : PD X c tc)
  (hm : lastMarks [op, op'] [b, c] = false := by with_unfolding_all rfl) : PDT X (.Compare a [op, op'] [b, c] pos) (zfE (ze0 f g ta tb tc)) := by
 refine ⟨zfE.mo (ze0.mo hf hg ha.mo hb.mo hc.mo), PT.imp (zml ho ho' ha.pe hb.pe hc.pe hm) fun σ H Q h => ?_⟩
 obtain ⟨δ, S, r1, r2, h⟩ := h
 refine zkt hr hr' hf hg ha.mo hb.mo hc.mo ⟨δ, S, r1, r2, ze0.mo hf hg ha.mo hb.mo hc.mo δ S _ _ (fun d S' z v H' a b c => ?_) h⟩
 cases d with
 | bl k => simp only [zau] at a; exact ⟨k, a, z H' b c⟩
 | non => exact z.elim
 | int _ => exact z.elim
 | str _ => exact z.elim
 | tup _ => exact z.elim
 | rol _ => exact z.elim
 | ref _ => exact z.elim
end
end L5
namespace L2
open PySem PySem.Spec PyProof.Rows
section
variable {X : Cx}
theorem zp9 : OpR X (compareOp .Is) (fun x y H Q => ∃ c d, x = .bl c /\ y = .bl d /\ Q (.bl (c == d)) H) := by
 intro pins s σ H x y v u Q I rx ry h
 obtain ⟨c, d, rfl, rfl, q⟩ := h
 cases rx
 cases ry
 exact is_bool ⟨.bl _, H, I, rfl, q⟩
theorem zol : OpR X (compareOp .IsNot) (fun x y H Q => ∃ c d, x = .bl c /\ y = .bl d /\ Q (.bl (c != d)) H) := by
 intro pins s σ H x y v u Q I rx ry h
 obtain ⟨c, d, rfl, rfl, q⟩ := h
 cases rx
 cases ry
 exact isnot_bool ⟨.bl _, H, I, rfl, q⟩
end
end L2
namespace L5
open PySem PySem.Spec L2 L3
open PyProof.Rows hiding St
section
variable {X : Cx} {K : PySem.W.Frag} {a b c e o i v : Expr} {es : List Expr} {ta tb tc te td ty tv : TDE} {tA : TDA} {pos p pos' : Pos} {fa fb fc : Ev -> Option T}
def zj3 : RD2 := fun x y S Q => match x, y with
 | .int i, .int j => Q (.bl (decide (i < j))) S
 | .tup ds, .tup es => ∃ ns ms : List Int, ds = ns.map D.int /\ es = ms.map D.int /\ Q (.bl (HT.lexLt ns ms)) S
 | _, _ => False
noncomputable def ltS : T -> T -> Option T
 | .int i, .int j => some (.bl (decide (i < j)))
 | .tup ts, .tup us => (zfB ts).bind fun ns => (zfB us).map fun ms => .bl (HT.lexLt ns ms)
 | _, _ => none
theorem zj3.mo : MoR zj3 := fun x y S Q Q' hq h => by
 unfold zj3 at h ⊢
 split at h
 ·exact hq _ _ h
 ·obtain ⟨ns, ms, h1, h2, h3⟩ := h
  exact ⟨ns, ms, h1, h2, hq _ _ h3⟩
 ·exact h.elim
theorem zj3.fits : zcZ K zj3 (fun x y H Q => rI0 (fun i j => .bl (decide (i < j))) x y H Q \/ zrg K x y H Q) := fun x y d e H S Q h1 h2 h3 h => by
 unfold zj3 at h
 split at h
 ·simp only [zau] at h1 h2
  exact .inl ⟨_, _, h1, h2, h _ H (by simp only [zau]) (.refl H) h3⟩
 ·obtain ⟨ns, ms, rfl, rfl, h⟩ := h
  simp only [zau] at h1 h2
  obtain ⟨a, xs, rfl, g1, g2⟩ := h1
  obtain ⟨b, ys, rfl, g3, g4⟩ := h2
  rw [g2.ints] at g1
  rw [g4.ints] at g3
  exact .inr ⟨a, b, ns, ms, rfl, rfl, g1, g3, h _ H (by simp only [zau]) (.refl H) h3⟩
 ·exact h.elim
theorem zdr : Good2 RkF ltS zj3 := fun S Z x y z d e Q hz hx hy ef hq => by
 unfold ltS at ef
 split at ef
 ·cases ef
  cases hx.int; cases hy.int
  exact hq _ S (.refl S) (Cl.of (fun _ => nofun) zei)
 ·obtain ⟨ns, e1, e2⟩ := Option.bind_eq_some_iff.mp ef
  obtain ⟨ms, e3, rfl⟩ := Option.map_eq_some_iff.mp e2
  cases zdj e1
  cases zdj e3
  obtain ⟨ds, rfl, h2⟩ := hx.tup
  obtain ⟨es, rfl, h4⟩ := hy.tup
  exact ⟨ns, ms, zcw.mp h2, zcw.mp h4, hq _ S (.refl S) (Cl.of (fun _ => nofun) zei)⟩
 ·cases ef
theorem znr {k : Nat} (hr : ze2 k X.A) : OpR X (compareOp .Lt) (fun x y H Q => rI0 (fun i j => .bl (decide (i < j))) x y H Q \/ zrg X.K x y H Q) := zrs.or (zp7 (by have := hr.units; omega))
theorem zkY {k : Nat} (hr : ze2 k X.A) (ha : PD X a ta) (hb : PD X b tb) : PD X (.Compare a [.Lt] [b] pos) (dOp zj3 ta tb) := zhQ (znr hr) zj3.fits zj3.mo ha hb (zeV _)
theorem zfb {k : Nat} (hr : ze2 k X.A) (ha : PD X a ta) (hb : PD X b tb) : PDT X (.Compare a [.Lt] [b] pos) (zfE (dOp zj3 ta tb)) := zfT (znr hr) zj3.fits zj3.mo ha hb (zeV _)
def zia (neg : Bool) : RD2 := fun x y S Q => match x, y with
 | .bl c, .bl d => Q (.bl (cond neg (c != d) (c == d))) S
 | x, .non => Q (.bl (cond neg (!zo8 x) (zo8 x))) S
 | _, _ => False
noncomputable def isS (neg : Bool) : T -> T -> Option T
 | .bl c, .bl d => some (.bl (cond neg (c != d) (c == d)))
 | x, .non => some (.bl (cond neg (!isNone x) (isNone x)))
 | _, _ => none
theorem zia.mo {neg : Bool} : MoR (zia neg) := fun x y S Q Q' hq h => by
 unfold zia at h ⊢
 split at h
 ·exact hq _ _ h
 ·exact hq _ _ h
 ·exact h.elim
theorem zia.fits : zcZ K (zia false) (fun x y H Q => (∃ c d, x = .bl c /\ y = .bl d /\ Q (.bl (c == d)) H) \/ (y = .non /\ Q (.bl (decide (x = .non))) H)) := fun x y d e H S Q h1 h2 h3 h => by
 unfold zia at h
 split at h
 ·simp only [zau] at h1 h2
  exact .inl ⟨_, _, h1, h2, h _ H (by simp only [zau, cond]) (.refl H) h3⟩
 ·simp only [zau] at h2
  refine .inr ⟨h2, ?_⟩
  rw [zll h1]
  exact h _ H (by simp only [zau, cond]) (.refl H) h3
 ·exact h.elim
theorem zia.zrH : zcZ K (zia true) (fun x y H Q => (∃ c d, x = .bl c /\ y = .bl d /\ Q (.bl (c != d)) H) \/ (y = .non /\ Q (.bl (!decide (x = .non))) H)) := fun x y d e H S Q h1 h2 h3 h => by
 unfold zia at h
 split at h
 ·simp only [zau] at h1 h2
  exact .inl ⟨_, _, h1, h2, h _ H (by simp only [zau, cond]) (.refl H) h3⟩
 ·simp only [zau] at h2
  refine .inr ⟨h2, ?_⟩
  rw [zll h1]
  exact h _ H (by simp only [zau, cond]) (.refl H) h3
 ·exact h.elim
theorem zoB {S : SS} {Z : Addr -> Prop} {x : T} {d : D} (hx : Vw S Z x d) : zo8 d = isNone x := by
 cases x with
 | non => cases hx.non; rfl
 | bl _ => cases hx.bl; rfl
 | int _ => cases hx.int; rfl
 | str _ => cases hx.str; rfl
 | tup _ => obtain ⟨ds, rfl, _⟩ := hx.tup; rfl
 | lst _ => obtain ⟨ds, rfl | ⟨a, rfl, h1⟩, h2⟩ := hx.lst <;> rfl
 | dic => obtain ⟨a, kvs, rfl, h1⟩ := hx.dic; rfl
theorem zlu {neg : Bool} : Good2 RkF (isS neg) (zia neg) := fun S Z x y z d e Q hz hx hy ef hq => by
 unfold isS at ef
 split at ef
 ·cases ef
  cases hx.bl; cases hy.bl
  exact hq _ S (.refl S) (Cl.of (fun _ => nofun) zei)
 ·cases ef
  cases hy.non
  have key : Q (.bl (cond neg (!zo8 d) (zo8 d))) S := by
   rw [zoB hx]
   exact hq _ S (.refl S) (Cl.of (fun _ => nofun) zei)
  unfold zia
  cases d <;> exact key
 ·cases ef
theorem zpY (ha : PD X a ta) (hb : PD X b tb) : PD X (.Compare a [.Is] [b] pos) (dOp (zia false) ta tb) := zhQ (zp9.or zp8) zia.fits zia.mo ha hb (zeV _)
theorem zjN (ha : PD X a ta) (hb : PD X b tb) : PDT X (.Compare a [.IsNot] [b] pos) (zfE (dOp (zia true) ta tb)) := zfT (zol.or zok) zia.zrH zia.mo ha hb (zeV _)
def zqM (td ty tv : TDE) : TDS := fun E δ S => tv δ S fun v S1 => td δ S1 fun x S2 => ty δ S2 fun y S3 => ∃ p ds k j, x = .ref p /\ y = .int k /\ S3 p = some (.lst ds) /\ ixN ds.length k = some j /\ E.nx δ (ups S3 p (.lst (ds.set j v)))
theorem zak.set {H : Hp} {d : D} {x : V} (h : zau K H d x) : ∀ {ds : List D} {xs : List V} (j : Nat), zak K H ds xs -> zak K H (ds.set j d) (xs.set j x)
 | [], xs, j, r => by simp only [zak] at r; subst r; exact .nil
 | c :: ds, xs, 0, r => by
  simp only [zak] at r
  obtain ⟨y, ys, rfl, _, r2⟩ := r
  exact .cons h r2
 | c :: ds, xs, j + 1, r => by
  simp only [zak] at r
  obtain ⟨y, ys, rfl, r1, r2⟩ := r
  exact .cons r1 (zak.set h j r2)
theorem zmt (ho : PD X o td) (hi : PD X i ty) (hv : PD X v tv) (hs : swapsWithSole [.Subscript o i pos'] v pos.line X.env = pure false := by rfl) (hw : swappedStores [.Subscript o i pos'] v X.env = pure none := by rfl)
  (h1 : (assignEach [.Subscript o i pos'] X.env).map (·.2) = [assign (.Subscript o i pos') X.env] := by rfl)
  (ha : ∀ v, assign (.Subscript o i pos') X.env v = (do
   let ov <- holding [v] (eval o X.env)
   let iv <- holding [v, ov] (eval i X.env)
   standAt pos'
   holding [v, ov, iv] (setItem ov iv v)
   release [v, ov, iv] []) := by intro _; rfl) : PDS X (.Assign [.Subscript o i pos'] v pos) (zqM td ty tv) := by
 refine ⟨fun E E' δ S hE z => hv.mo δ S _ _ (fun w S1 z => ho.mo δ S1 _ _ (fun x S2 z => hi.mo δ S2 _ _ (fun y S3 ⟨p, ds, k, j, a, b, c, d, h⟩ => ⟨p, ds, k, j, a, b, c, d, hE.nx _ _ h⟩) z) z) z, PS.imp (znk hv.pe (zpI ho.pe hi.pe set_list ha) hs hw h1) fun D σ H hu => ?_⟩
 obtain ⟨δ, S, r1, r2, z⟩ := hu
 refine upE.go hv.mo r1 r2 z fun w S1 w1 H1 h1 q1 e1 p1 => ?_
 refine upE.go ho.mo (r1.ext e1) p1 h1 fun x S2 w2 H2 h2 q2 e2 p2 => ?_
 refine upE.go hi.mo ((r1.ext e1).ext e2) p2 h2 fun y S3 w3 H3 h3 q3 e3 p3 => ?_
 obtain ⟨p, ds, k, j, rfl, rfl, c1, c2, h⟩ := h3
 simp only [zau] at q2 q3
 subst q2 q3
 obtain ⟨xs, g1, g2⟩ := p3 _ _ c1
 have e4 : Ext H3 (upd H3 p (.lst (xs.set j w1))) := .lst g1 _
 refine ⟨p, xs, k, j, rfl, rfl, g1, by rw [<- g2.length]; exact c2, ?_⟩
 exact h σ _ ((((r1.ext e1).ext e2).ext e3).ext e4) (((e1.trans e2).trans e3).trans e4) (p3.ups e4 ⟨_, zaA, zak.ext e4 _ (zak.set (zau.ext (e2.trans e3) w q1) j g2)⟩)
@[simp] noncomputable def zqr (n : Nat) (f v : Ev -> Option T) : Sm := fun ρ => (v ρ).bind fun z => (f ρ).bind fun y => match ρ[n]?, y with
 | some (some (.own (.lst ts))), .int k => (ixN ts.length k).map fun j => .nx (ρ.set n (some (.own (.lst (ts.set j z)))))
 | _, _ => none
theorem zmz {R : Rk} (n : Nat) {f v : Ev -> Option T} (hf : OkR f ty) (hv : OkE v tv) : OkS R (zqr n f v) (zqM (zjn n) ty tv) := fun S0 Z0 S Z δ ρ o E F e P => by
 obtain ⟨z, e1, e⟩ := Option.bind_eq_some_iff.mp e
 obtain ⟨x, e2, e3⟩ := Option.bind_eq_some_iff.mp e
 split at e3
 ·rename_i ts k h
  obtain ⟨j, hj, rfl⟩ := Option.map_eq_some_iff.mp e3
  refine hv S Z δ ρ z _ F.er e1 fun dz S1 s1 r1 => ?_
  have F1 := F.grow s1
  obtain ⟨p, ob, h1, h2, h3, h4⟩ := F1.er.ow n _ h
  cases ob with
  | dct _ => exact h3.elim
  | lst ds =>
   show zjn n δ S1 _
   unfold zjn; rw [h1]
   refine hf S1 Z δ ρ _ _ F1.er e2 fun d S2 s2 r2 => ?_
   cases Vw.int r2
   have h5 : Sns (hid S2 Z) ts ds := Sns.sx (zbY s2) ts h3
   exact ⟨p, ds, k, j, rfl, rfl, s2 _ _ h2, by rw [h5.len]; exact hj, P _ Z δ ((F1.grow s2).mut (us := .lst (ts.set j z)) (es := .lst (ds.set j dz)) n h h1 (h5.zr0 j (Sn.sx (zbY s2) z r1)))⟩
 ·cases e3
theorem ziG {x y : Str} {u : Value} (hm : X.mg x = some u) (r : RelV (.str y) u) (hg : Gl X x := by rfl) (hd : (x == ("__debug__" : Str)) = false := by decide) : PD X (.Name x pos) (dC (.str y)) := zd4 (zkU hg hm r hd) fun _ => by simp only [zau]
theorem zdR {x : Str} {n : Int} {u : Value} (hm : X.mg x = some u) (r : RelV (.int n) u) (hg : Gl X x := by rfl) (hd : (x == ("__debug__" : Str)) = false := by decide) : PD X (.Name x pos) (dC (.int n)) := zd4 (zkU hg hm r hd) fun _ => by simp only [zau]
theorem zqj : OkE (cS .dic) znI := fun S Z δ ρ y Q hE e hq => by
 cases e
 intro p hp
 refine hq _ _ (.new hp _) ?_
 show Sn (hid _ Z) .dic _
 simp only [Sn]
 exact ⟨p, [], rfl, by rw [zdF (fun z => hE.zd p z hp), zc0]⟩
end
end L5
namespace ZP
open PySem PyProof.Rows
noncomputable def zlk (k : Bool) : String := cond k "tuple_iterator" "list_iterator"
def SI (h : Heap) (k : Bool) (it l : Addr) (i : Nat) : Prop := ∃ o, h.get? it = some o /\ o.cls = .type (zlk k) /\ o.data = .fields #[.ref l, .int i 0]
def SQ (h : Heap) (k : Bool) (l : Addr) (xs : Array Value) : Prop := match k with
 | true => h.IsTuple l xs
 | false => h.IsList l xs
theorem SI.on {h h' : Heap} {k : Bool} {it l : Addr} {i : Nat} (x : SI h k it l i) (f : ∀ o, h.get? it = some o -> h'.get? it = some o) : SI h' k it l i :=
 let ⟨o, ho, r⟩ := x; ⟨o, f o ho, r⟩
theorem SQ.on {h h' : Heap} {k : Bool} {l : Addr} {xs : Array Value} (x : SQ h k l xs) (f : ∀ o, h.get? l = some o -> h'.get? l = some o) : SQ h' k l xs := by
 cases k with
 | true => obtain ⟨o, ho, r⟩ := (show h.IsTuple l xs from x); exact ⟨o, f o ho, r⟩
 | false => obtain ⟨o, ho, r⟩ := (show h.IsList l xs from x); exact ⟨o, f o ho, r⟩
theorem SQ.lt {h : Heap} {k : Bool} {l : Addr} {xs : Array Value} (x : SQ h k l xs) : l < h.objs.size := by
 cases k with
 | true => obtain ⟨o, ho, _⟩ := (show h.IsTuple l xs from x); exact Heap.lt_size ho
 | false => obtain ⟨o, ho, _⟩ := (show h.IsList l xs from x); exact Heap.lt_size ho
section
variable {prog : Program} {w : World} {A : Around} {E : Value -> Shared -> Prop} {s : Shared}
theorem made {k : Bool} {l : Addr} {xs : Array Value} {Q : Value -> Shared -> Prop} (hl : SQ s.heap k l xs)
  (hQ : Q (.ref s.heap.objs.size) { s with heap := s.heap.push { cls := .type (zlk k), data := .fields #[.ref l, .int 0 0] } }) : wpAny (model prog w) A (pyIter (.ref l)) Q E s := by
 cases k with
 | true => exact wpAny_pyIter_tuple hl hQ
 | false => exact wpAny_pyIter_list hl hQ
theorem zrI {it l : Addr} {i : Nat} {xs : Array Value} {x : Value} {Q : Value -> Shared -> Prop} (hit : s.heap.IsTupleIter it l i) (hl : s.heap.IsTuple l xs) (hx : xs[i]? = some x)
  (hQ : ∀ h', h'.IsTupleIter it l (i + 1) -> Heap.SameBut it s.heap h' -> Q x { s with heap := h' }) : wpAny (model prog w) A (Builtin.SmallTypes.nextOf (.ref it)) Q E s := by
 have ht := hit.typeIs
 obtain ⟨oi, e1, e2, e3⟩ := id hit
 obtain ⟨ol, g1, _, n, g2⟩ := hl
 refine wpAny_bind (wpAny_callSpecial?_slot (name := Str.ofString "__next__") ht F.slot_tuple_iterator_next (wpAny_call_entry F.slot_tuple_iterator_next ht F.entry_tuple_iterator_next ?_ (F.args_tuple_iterator_next_1 _)))
 refine wpAny_bind (m := field (.ref it) 0) (wpAny_field e1 e3 (x := .ref l) rfl ?_)
 dsimp only
 rw [if_neg (show ¬ ((Value.ref l == Value.none) = true) from Bool.false_ne_true)]
 refine wpAny_bind (m := field (.ref it) 1) (wpAny_field e1 e3 (x := .int i 0) rfl ?_)
 dsimp only
 refine wpAny_bind (m := seqItems? (.ref l)) (wpAny_seqItems g1 g2 ?_)
 simp only [Int.toNat_natCast, hx]
 have there := Heap.get?_update_self (Obj.mapFields fun y => y.setIfInBounds 1 (rawInt ((i : Int) + 1))) e1 (Obj.isFreed_of_fields (Obj.data_mapFields e3 _))
 refine wpAny_bind (wpAny_setField e1 e3 (by simp) (wpAny_pure ⟨x, rfl, wpAny_pure (hQ _ ⟨_, there, (Obj.cls_mapFields ..).trans e2, ?_⟩ (Heap.SameBut.update ..))⟩))
 rw [Obj.data_mapFields e3]; simp [rawInt]
theorem zsO {it l : Addr} {i : Nat} {xs : Array Value} {Q : Value -> Shared -> Prop} (hh : A.handled = none) (hit : s.heap.IsTupleIter it l i) (hl : s.heap.IsTuple l xs) (hx : xs[i]? = none)
  (hE : ∀ h' e, Heap.ExtBut it s.heap h' -> (∃ o, h'.get? e = some o /\ o.cls = .type "StopIteration") -> E (.ref e) { s with heap := h' }) : wpAny (model prog w) A (Builtin.SmallTypes.nextOf (.ref it)) Q E s := by
 have ht := hit.typeIs
 obtain ⟨oi, e1, e2, e3⟩ := id hit
 obtain ⟨ol, g1, _, n, g2⟩ := hl
 refine wpAny_bind (wpAny_callSpecial?_slot (name := Str.ofString "__next__") ht F.slot_tuple_iterator_next (wpAny_call_entry F.slot_tuple_iterator_next ht F.entry_tuple_iterator_next ?_ (F.args_tuple_iterator_next_1 _)))
 refine wpAny_bind (m := field (.ref it) 0) (wpAny_field e1 e3 (x := .ref l) rfl ?_)
 dsimp only
 rw [if_neg (show ¬ ((Value.ref l == Value.none) = true) from Bool.false_ne_true)]
 refine wpAny_bind (m := field (.ref it) 1) (wpAny_field e1 e3 (x := .int i 0) rfl ?_)
 dsimp only
 refine wpAny_bind (m := seqItems? (.ref l)) (wpAny_seqItems g1 g2 ?_)
 simp only [Int.toNat_natCast, hx]
 refine wpAny_bind (wpAny_rule (wpAny_bind (wpAny_setField e1 e3 (by simp) ?_)))
 refine wpAny_bind (m := newExc (.type "StopIteration") []) ?_
 simp only [newExc, newTuple]
 refine wpAny_bind (wpAny_newObj_type (wpAny_bind (m := firstArgMember _ _) (wpAny_of_eq (a := Value.none) (by first | rfl | (simp only [firstArgMember]; rfl)) (wpAny_newObj_type ?_ (by size_fits)))) (by size_fits))
 simp only [raiseNew]
 refine wpAny_bind (wpAny_handled ?_)
 rw [show A.in1.handled = none from hh]
 exact wpAny_bind (wpAny_pure (wpAny_throw (hE _ _ (((Heap.SameBut.update ..).extBut.push _).push _) ⟨_, Heap.get?_push_size _ rfl, rfl⟩)))
theorem draw {k : Bool} {it l : Addr} {i : Nat} {xs : Array Value} {x : Value} {Q : Value -> Shared -> Prop} (hit : SI s.heap k it l i) (hl : SQ s.heap k l xs) (hx : xs[i]? = some x)
  (hQ : ∀ h', SI h' k it l (i + 1) -> Heap.SameBut it s.heap h' -> Q x { s with heap := h' }) : wpAny (model prog w) A (Builtin.SmallTypes.nextOf (.ref it)) Q E s := by
 cases k with
 | true => exact zrI hit hl hx hQ
 | false => exact wpAny_nextOf_list_item hit hl hx hQ
theorem zlC {k : Bool} {it l : Addr} {i : Nat} {xs : Array Value} {Q : Value -> Shared -> Prop} (hh : A.handled = none) (hit : SI s.heap k it l i) (hl : SQ s.heap k l xs) (hx : xs[i]? = none)
  (hE : ∀ h' e, Heap.ExtBut it s.heap h' -> (∃ o, h'.get? e = some o /\ o.cls = .type "StopIteration") -> E (.ref e) { s with heap := h' }) : wpAny (model prog w) A (Builtin.SmallTypes.nextOf (.ref it)) Q E s := by
 cases k with
 | true => exact zsO hh hit hl hx hE
 | false => exact wpAny_nextOf_list_end hh hit hl hx hE
structure Far (z TI TO i1 i2 l1 l2 : Addr) : Prop where
 nd : [z, TI, TO, i1, i2].Nodup
 f1 : l1 ∉ [z, TI, TO, i1, i2]
 f2 : l2 ∉ [z, TI, TO, i1, i2]
structure At (h : Heap) (k1 k2 : Bool) (z TI TO i1 i2 l1 l2 : Addr) (f0 : Value) (n : Nat) : Prop where
 z : IsZip h z TI TO f0
 ti : IsPair h TI (.ref i1) (.ref i2)
 to : ∃ a b, IsPair h TO a b
 s1 : SI h k1 i1 l1 n
 s2 : SI h k2 i2 l2 n
theorem At.keep {h h' : Heap} {k1 k2 : Bool} {z TI TO i1 i2 l1 l2 : Addr} {f0 : Value} {n : Nat} (S : At h k1 k2 z TI TO i1 i2 l1 l2 f0 n) (f : ∀ b ∈ [z, TI, TO, i1, i2], ∀ o, h.get? b = some o -> h'.get? b = some o) : At h' k1 k2 z TI TO i1 i2 l1 l2 f0 n :=
 ⟨f z (by simp) _ S.z, f TI (by simp) _ S.ti, let ⟨a, b, e⟩ := S.to; ⟨a, b, f TO (by simp) _ e⟩, S.s1.on (f i1 (by simp)), S.s2.on (f i2 (by simp))⟩
theorem item {k1 k2 : Bool} {z TI TO i1 i2 l1 l2 : Addr} {n : Nat} {xs ys : Array Value} {x y : Value} {Q : Option Value -> Shared -> Prop} (D : Far z TI TO i1 i2 l1 l2) (S : At s.heap k1 k2 z TI TO i1 i2 l1 l2 .none n)
  (h1 : SQ s.heap k1 l1 xs) (h2 : SQ s.heap k2 l2 ys) (hx : xs[n]? = some x) (hy : ys[n]? = some y)
  (hQ : ∀ h', At h' k1 k2 z TI TO i1 i2 l1 l2 (rawInt s.heap.objs.size) (n + 1) -> IsPair h' s.heap.objs.size x y -> (∀ c o, c ∉ [z, TI, TO, i1, i2] -> s.heap.get? c = some o -> h'.get? c = some o) -> Q (some (.ref s.heap.objs.size)) { s with heap := h' }) :
  wpAny (model prog w) A (pyNext (.ref z)) Q E s := by
 obtain ⟨nd, f1, f2⟩ := D
 simp only [List.nodup_cons, List.mem_cons, List.not_mem_nil, or_false, not_or, List.nodup_nil, and_true, not_false_eq_true] at nd f1 f2
 obtain ⟨⟨n1, n2, n3, n4⟩, ⟨n5, n6, n7⟩, ⟨n8, n9⟩, n10⟩ := nd
 obtain ⟨a1, a2, a3, a4, a5⟩ := f1
 obtain ⟨b1, b2, b3, b4, b5⟩ := f2
 obtain ⟨hz, hti, ⟨a, b, hto⟩, s1, s2⟩ := S
 have hT : s.TypeIs (.ref z) "zip" := ⟨_, hz, rfl⟩
 unfold pyNext
 refine wpAny_bind (wpAny_attempt (wpAny_callSpecial?_slot (name := Str.ofString "__next__") hT F.slot_zip_next (wpAny_call_entry F.slot_zip_next hT F.entry_zip_next ?_ (F.args_zip_next_1 _))))
 refine wpAny_bind (m := field (.ref z) 2) (wpAny_field hz rfl (x := .bool false) rfl ?_)
 refine wpAny_bind (m := field (.ref z) 3) (wpAny_field hz rfl (x := .ref TI) rfl ?_)
 refine wpAny_bind (m := seqItems? (.ref TI)) (wpAny_seqItems hti rfl ?_)
 refine wpAny_bind (m := Builtin.SmallTypes.ownedTupleIsFree (.ref z)) (wpAny_bind (m := field (.ref z) 0) (wpAny_field hz rfl (x := .none) rfl (wpAny_pure ?_)))
 simp only [if_true]
 refine wpAny_bind (wpAny_rule (wpAny_bind (wpAny_field hz rfl (x := .ref TO) rfl (wpAny_bind (wpAny_setField_rec hz (by simp) fun g1 hz1 e1 => ?_)))))
 replace hz1 : IsZip g1 z TI TO .ellipsis := hz1
 refine wpAny_bind ?_
 simp only [List.zipIdx_cons, List.zipIdx_nil, List.forIn_cons, List.forIn_nil]
 -- the first
 refine wpAny_bind (wpAny_bind (wpAny_onRaise (wpAny_bind (m := Builtin.SmallTypes.nextOf (.ref i1)) (draw (s1.on fun o q => e1.extBut _ _ (Ne.symm n3) q) (h1.on fun o q => e1.extBut _ _ a1 q) hx fun g2 s12 e2 => wpAny_pure ?_))))
 have to2 : IsPair g2 TO a b := e2.extBut _ _ n8 (e1.extBut _ _ (Ne.symm n2) hto)
 refine wpAny_bind (wpAny_seqItems to2 rfl (wpAny_bind (wpAny_updateSeq_pair to2 fun g3 to3 e3 => wpAny_bind (wpAny_letGo (wpAny_pure ?_)))))
 replace to3 : IsPair g3 TO x b := to3
 -- the second
 have up : ∀ c o, c ≠ z -> c ≠ i1 -> c ≠ TO -> s.heap.get? c = some o -> g3.get? c = some o := fun c o c1 c2 c3 q => e3.extBut _ _ c3 (e2.extBut _ _ c2 (e1.extBut _ _ c1 q))
 refine wpAny_bind (wpAny_bind (wpAny_onRaise (wpAny_bind (m := Builtin.SmallTypes.nextOf (.ref i2)) (draw (s2.on fun o q => up _ o (Ne.symm n4) (Ne.symm n10) (Ne.symm n9) q) (h2.on fun o q => up _ o b1 b4 b3 q) hy fun g4 s24 e4 => wpAny_pure ?_))))
 have to4 : IsPair g4 TO x b := e4.extBut _ _ n9 to3
 refine wpAny_bind (wpAny_seqItems to4 rfl (wpAny_bind (wpAny_updateSeq_pair to4 fun g5 to5 e5 => wpAny_bind (wpAny_letGo (wpAny_pure (wpAny_pure ?_))))))
 replace to5 : IsPair g5 TO x y := to5
 refine wpAny_bind (wpAny_seqItems to5 rfl (wpAny_bind (wpAny_newTuple ?_)))
 have sz : g5.objs.size = s.heap.objs.size := by rw [e5.1, e4.1, e3.1, e2.1, e1.1]
 have hz5 : IsZip g5 z TI TO .ellipsis := e5.extBut _ _ n2 (e4.extBut _ _ n4 (e3.extBut _ _ n2 (e2.extBut _ _ n3 hz1)))
 have up5 : ∀ c o, c ∉ [z, TI, TO, i1, i2] -> s.heap.get? c = some o -> g5.get? c = some o := fun c o hc q => by
  simp only [List.mem_cons, List.not_mem_nil, or_false, not_or] at hc
  exact e5.extBut _ _ hc.2.2.1 (e4.extBut _ _ hc.2.2.2.2 (up c o hc.1 hc.2.2.2.1 hc.2.2.1 q))
 have ti5 : IsPair g5 TI (.ref i1) (.ref i2) := e5.extBut _ _ n5 (e4.extBut _ _ n7 (up _ _ (Ne.symm n1) n6 n5 hti))
 have s15 : SI g5 k1 i1 l1 (n + 1) := s12.on fun o q => e5.extBut _ _ (Ne.symm n8) (e4.extBut _ _ n10 (e3.extBut _ _ (Ne.symm n8) q))
 have s25 : SI g5 k2 i2 l2 (n + 1) := s24.on fun o q => e5.extBut _ _ (Ne.symm n9) q
 have lz : z < g5.objs.size := Heap.lt_size hz5
 refine wpAny_bind (m := Builtin.SmallTypes.ownedTupleHandOut (.ref z) (.ref g5.objs.size)) ?_
 have hz6 : IsZip (g5.push { cls := .type "tuple", data := .seq #[x, y] }) z TI TO .ellipsis := Heap.get?_push_of_some _ hz5
 refine wpAny_bind (wpAny_setField_rec hz6 (by simp) fun g7 hz7 e7 => ?_)
 replace hz7 : IsZip g7 z TI TO (rawInt g5.objs.size) := hz7
 refine wpAny_setField_rec hz7 (by simp) fun g8 hz8 e8 => ?_
 replace hz8 : IsZip g8 z TI TO (rawInt g5.objs.size) := hz8
 have up8 : ∀ c o, c ≠ z -> (g5.push { cls := .type "tuple", data := .seq #[x, y] }).get? c = some o -> g8.get? c = some o := fun c o c1 q => e8.extBut _ _ c1 (e7.extBut _ _ c1 q)
 have T8 : IsPair g8 g5.objs.size x y := up8 _ _ (Nat.ne_of_gt lz) (Heap.get?_push_size _ rfl)
 have up9 : ∀ c o, c ≠ z -> g5.get? c = some o -> g8.get? c = some o := fun c o c1 q => up8 c o c1 (Heap.get?_push_of_some _ q)
 rw [sz] at hz8 T8
 refine wpAny_pure ⟨.ref g5.objs.size, rfl, wpAny_pure ?_⟩
 show Q (some (.ref g5.objs.size)) _
 rw [sz]
 refine hQ g8 ⟨hz8, up9 _ _ (Ne.symm n1) ti5, ⟨x, y, up9 _ _ (Ne.symm n2) to5⟩, s15.on fun o q => up9 _ o (Ne.symm n3) q, s25.on fun o q => up9 _ o (Ne.symm n4) q⟩ T8 fun c o hc q => up9 c o (fun e => hc (by simp [e])) (up5 c o hc q)
theorem stop {k1 k2 : Bool} {z TI TO i1 i2 l1 l2 : Addr} {n : Nat} {xs ys : Array Value} {Q : Option Value -> Shared -> Prop} (hh : A.handled = none) (D : Far z TI TO i1 i2 l1 l2) (S : At s.heap k1 k2 z TI TO i1 i2 l1 l2 .none n)
  (h1 : SQ s.heap k1 l1 xs) (h2 : SQ s.heap k2 l2 ys) (hend : xs[n]? = none \/ ys[n]? = none)
  (hQ : ∀ h', (∀ c o, c ∉ [z, TI, TO, i1, i2] -> s.heap.get? c = some o -> h'.get? c = some o) -> Q none { s with heap := h' }) :
  wpAny (model prog w) A (pyNext (.ref z)) Q E s := by
 obtain ⟨nd, f1, f2⟩ := D
 simp only [List.nodup_cons, List.mem_cons, List.not_mem_nil, or_false, not_or, List.nodup_nil, and_true, not_false_eq_true] at nd f1 f2
 obtain ⟨⟨n1, n2, n3, n4⟩, ⟨n5, n6, n7⟩, ⟨n8, n9⟩, n10⟩ := nd
 obtain ⟨a1, a2, a3, a4, a5⟩ := f1
 obtain ⟨b1, b2, b3, b4, b5⟩ := f2
 obtain ⟨hz, hti, ⟨a, b, hto⟩, s1, s2⟩ := S
 have hT : s.TypeIs (.ref z) "zip" := ⟨_, hz, rfl⟩
 have fin : ∀ (h' : Heap) (e : Addr), (∀ c o, c ∉ [z, TI, TO, i1, i2] -> s.heap.get? c = some o -> h'.get? c = some o) -> (∃ o, h'.get? e = some o /\ o.cls = .type "StopIteration") ->
   wpAny (model prog w) A (do if <- isInstance (.ref e) (.type "StopIteration") then pure none else throw (.ref e)) Q E { s with heap := h' } := fun h' e k1 k2 => by
  obtain ⟨o, ho, hc⟩ := k2
  exact wpAny_bind (wpAny_isInstance (T := "StopIteration") (b := true) ⟨o, ho, hc⟩ isSubtype_stop (wpAny_pure (hQ _ k1)))
 unfold pyNext
 refine wpAny_bind (wpAny_attempt (wpAny_callSpecial?_slot (name := Str.ofString "__next__") hT F.slot_zip_next (wpAny_call_entry F.slot_zip_next hT F.entry_zip_next ?_ (F.args_zip_next_1 _))))
 refine wpAny_bind (m := field (.ref z) 2) (wpAny_field hz rfl (x := .bool false) rfl ?_)
 refine wpAny_bind (m := field (.ref z) 3) (wpAny_field hz rfl (x := .ref TI) rfl ?_)
 refine wpAny_bind (m := seqItems? (.ref TI)) (wpAny_seqItems hti rfl ?_)
 refine wpAny_bind (m := Builtin.SmallTypes.ownedTupleIsFree (.ref z)) (wpAny_bind (m := field (.ref z) 0) (wpAny_field hz rfl (x := .none) rfl (wpAny_pure ?_)))
 simp only [if_true]
 refine wpAny_bind (wpAny_rule (wpAny_bind (wpAny_field hz rfl (x := .ref TO) rfl (wpAny_bind (wpAny_setField_rec hz (by simp) fun g1 hz1 e1 => ?_)))))
 replace hz1 : IsZip g1 z TI TO .ellipsis := hz1
 refine wpAny_bind ?_
 simp only [List.zipIdx_cons, List.zipIdx_nil, List.forIn_cons, List.forIn_nil]
 cases hx : xs[n]? with
 | none =>
  refine wpAny_bind (wpAny_bind (wpAny_onRaise (wpAny_bind (m := Builtin.SmallTypes.nextOf (.ref i1)) (zlC hh (s1.on fun o q => e1.extBut _ _ (Ne.symm n3) q) (h1.on fun o q => e1.extBut _ _ a1 q) hx fun g2 ex e2 he => ?_))))
  have hz2 : IsZip g2 z TI TO .ellipsis := e2 _ _ n3 hz1
  obtain ⟨oe, q1, q2⟩ := he
  have ne : ex ≠ z := fun q => by subst q; rw [hz2] at q1; cases q1; simp at q2
  refine wpAny_setField_rec hz2 (by simp) fun g3 _ e3 => fin g3 ex (fun c o hc q => ?_) ⟨oe, e3.extBut _ _ ne q1, q2⟩
  simp only [List.mem_cons, List.not_mem_nil, or_false, not_or] at hc
  exact e3.extBut _ _ hc.1 (e2 _ _ hc.2.2.2.1 (e1.extBut _ _ hc.1 q))
 | some x =>
  have hy : ys[n]? = none := hend.resolve_left (by rw [hx]; simp)
  refine wpAny_bind (wpAny_bind (wpAny_onRaise (wpAny_bind (m := Builtin.SmallTypes.nextOf (.ref i1)) (draw (s1.on fun o q => e1.extBut _ _ (Ne.symm n3) q) (h1.on fun o q => e1.extBut _ _ a1 q) hx fun g2 s12 e2 => wpAny_pure ?_))))
  have to2 : IsPair g2 TO a b := e2.extBut _ _ n8 (e1.extBut _ _ (Ne.symm n2) hto)
  refine wpAny_bind (wpAny_seqItems to2 rfl (wpAny_bind (wpAny_updateSeq_pair to2 fun g3 to3 e3 => wpAny_bind (wpAny_letGo (wpAny_pure ?_)))))
  have up : ∀ c o, c ≠ z -> c ≠ i1 -> c ≠ TO -> s.heap.get? c = some o -> g3.get? c = some o := fun c o c1 c2 c3 q => e3.extBut _ _ c3 (e2.extBut _ _ c2 (e1.extBut _ _ c1 q))
  refine wpAny_bind (wpAny_bind (wpAny_onRaise (wpAny_bind (m := Builtin.SmallTypes.nextOf (.ref i2)) (zlC hh (s2.on fun o q => up _ o (Ne.symm n4) (Ne.symm n10) (Ne.symm n9) q) (h2.on fun o q => up _ o b1 b4 b3 q) hy fun g4 ex e4 he => ?_))))
  have hz4 : IsZip g4 z TI TO .ellipsis := e4 _ _ n4 (e3.extBut _ _ n2 (e2.extBut _ _ n3 hz1))
  obtain ⟨oe, q1, q2⟩ := he
  have ne : ex ≠ z := fun q => by subst q; rw [hz4] at q1; cases q1; simp at q2
  refine wpAny_setField_rec hz4 (by simp) fun g5 _ e5 => fin g5 ex (fun c o hc q => ?_) ⟨oe, e5.extBut _ _ ne q1, q2⟩
  simp only [List.mem_cons, List.not_mem_nil, or_false, not_or] at hc
  exact e5.extBut _ _ hc.1 (e4 _ _ hc.2.2.2.2 (up c o hc.1 hc.2.2.2.1 hc.2.2.1 q))
end
end ZP
namespace ZP
open PySem PyProof.Rows
abbrev itO (k : Bool) (l : Addr) : Obj := { cls := .type (zlk k), data := .fields #[.ref l, .int 0 0] }
abbrev hp2 (k1 k2 : Bool) (h : Heap) (l1 l2 : Addr) : Heap := (h.push (itO k1 l1)).push (itO k2 l2)
abbrev hp3 (k1 k2 : Bool) (h : Heap) (l1 l2 : Addr) : Heap := (hp2 k1 k2 h l1 l2).push { cls := .type "tuple", data := .seq #[.ref h.objs.size, .ref (h.push (itO k1 l1)).objs.size] }
abbrev hp4 (k1 k2 : Bool) (h : Heap) (l1 l2 : Addr) : Heap := (hp3 k1 k2 h l1 l2).push { cls := .type "tuple", data := .seq #[.none, .none] }
abbrev hp5 (k1 k2 : Bool) (h : Heap) (l1 l2 : Addr) : Heap := (hp4 k1 k2 h l1 l2).push { cls := .type "zip", data := .fields #[.none, .bool false, .bool false, .ref (hp2 k1 k2 h l1 l2).objs.size, .ref (hp3 k1 k2 h l1 l2).objs.size] }
theorem zk8 (k1 k2 : Bool) (l1 l2 : Addr) (xs ys : Array Value) : Meets (Builtin.«zip.__new__» ⟨[.type "zip", .ref l1, .ref l2], []⟩) (fun _ R s => SQ s.heap k1 l1 xs /\ SQ s.heap k2 l2 ys /\
   R (.ok (.ret (.ref (hp4 k1 k2 s.heap l1 l2).objs.size))) { s with heap := hp5 k1 k2 s.heap l1 l2 }) :=
 .of_wp fun prog w A R s h => by
  obtain ⟨hp, g, d, tk, os⟩ := s
  obtain ⟨q1, q2, h⟩ := h
  have hsub := sub_zip
  have m1 : SQ (Shared.heap ⟨hp, g, d, tk, os⟩) k1 l1 xs := q1
  have m2 : SQ (Shared.heap ⟨hp.push (itO k1 l1), g, d, tk, os⟩) k2 l2 ys := q2.on fun o e => Heap.get?_push_of_some _ e
  wp_walk using made m1, made m2
  exact ⟨_, rfl, h⟩
section
variable {prog : Program} {w : World} {A : Around} {E : Value -> Shared -> Prop} {s : Shared}
theorem new {k1 k2 : Bool} {l1 l2 : Addr} {xs ys : Array Value} {Q : Value -> Shared -> Prop} (h1 : SQ s.heap k1 l1 xs) (h2 : SQ s.heap k2 l2 ys)
  (h : ∀ h' z TI TO i1 i2, (∀ b ∈ [z, TI, TO, i1, i2], s.heap.objs.size <= b) -> Far z TI TO i1 i2 l1 l2 -> At h' k1 k2 z TI TO i1 i2 l1 l2 .none 0 -> (∀ c o, s.heap.get? c = some o -> h'.get? c = some o) -> Q (.ref z) { s with heap := h' }) :
  wpAny (model prog w) A (call (.type "zip") [.ref l1, .ref l2]) Q E s := by
 refine callType_new F.called_zip (by decide) (F.typeCall_zip_2 _ _) (F.newCall_zip_2 _ _) (fun obj => F.args_object_init_3 obj _ _) F.entry_zip_new (zk8 k1 k2 l1 l2 xs ys) ⟨h1, h2, ?_⟩
 have z1 : (s.heap.push (itO k1 l1)).objs.size = s.heap.objs.size + 1 := Heap.size_push ..
 have z2 : (hp2 k1 k2 s.heap l1 l2).objs.size = s.heap.objs.size + 2 := by rw [Heap.size_push, z1]
 have z3 : (hp3 k1 k2 s.heap l1 l2).objs.size = s.heap.objs.size + 3 := by rw [Heap.size_push, z2]
 have z4 : (hp4 k1 k2 s.heap l1 l2).objs.size = s.heap.objs.size + 4 := by rw [Heap.size_push, z3]
 have p1 : ∀ (h : Heap) (o : Obj), o.isFreed = false -> (h.push o).get? h.objs.size = some o := fun h o e => Heap.get?_push_size _ e
 have u : ∀ {h : Heap} {b : Addr} {o : Obj} (o' : Obj), h.get? b = some o -> (h.push o').get? b = some o := fun o' e => Heap.get?_push_of_some _ e
 have g5 : (hp5 k1 k2 s.heap l1 l2).get? (hp4 k1 k2 s.heap l1 l2).objs.size = some _ := p1 _ _ rfl
 have g4 : (hp5 k1 k2 s.heap l1 l2).get? (hp3 k1 k2 s.heap l1 l2).objs.size = some _ := u _ (p1 _ _ rfl)
 have g3 : (hp5 k1 k2 s.heap l1 l2).get? (hp2 k1 k2 s.heap l1 l2).objs.size = some _ := u _ (u _ (p1 _ _ rfl))
 have g2 : (hp5 k1 k2 s.heap l1 l2).get? (s.heap.push (itO k1 l1)).objs.size = some (itO k2 l2) := u _ (u _ (u _ (p1 _ _ rfl)))
 have g1 : (hp5 k1 k2 s.heap l1 l2).get? s.heap.objs.size = some (itO k1 l1) := u _ (u _ (u _ (u _ (p1 _ _ rfl))))
 have a1 := h1.lt
 have a2 := h2.lt
 rw [z2, z3, z4] at g5
 rw [z1, z2] at g3
 rw [z3] at g4
 rw [z1] at g2
 generalize hN : s.heap.objs.size = N at *
 have lt : ∀ {m : Nat}, m < N -> ∀ j : Nat, ¬ m = N + j := fun hm j => by omega
 have ne : ∀ {i j : Nat}, i ≠ j -> ¬ (N + i = N + j) := fun hij e => hij (by omega)
 show _ /\ _
 rw [z4]
 refine ⟨⟨_, g5, rfl⟩, h _ (N + 4) (N + 2) (N + 3) N (N + 1) (fun b hb => ?_) ⟨?_, ?_, ?_⟩ ⟨g5, g3, ⟨_, _, g4⟩, ⟨_, g1, rfl, rfl⟩, ⟨_, g2, rfl, rfl⟩⟩ fun c o e => u _ (u _ (u _ (u _ (u _ e))))⟩
 ·simp only [List.mem_cons, List.not_mem_nil, or_false] at hb
  have h0 : N <= N := Nat.le_refl N
  rcases hb with e | e | e | e | e <;> subst e
  ·exact Nat.le_add_right N 4
  ·exact Nat.le_add_right N 2
  ·exact Nat.le_add_right N 3
  ·exact h0
  ·exact Nat.le_add_right N 1
 ·have e0 : ∀ {i : Nat}, i ≠ 0 -> ¬ (N + i = N) := fun hi e => hi (by omega)
  have e0' : ∀ {i : Nat}, i ≠ 0 -> ¬ (N = N + i) := fun hi e => hi (by omega)
  simp only [List.nodup_cons, List.mem_cons, List.not_mem_nil, or_false, not_or, List.nodup_nil, and_true, not_false_eq_true]
  exact ⟨⟨ne (by decide), ne (by decide), e0 (by decide), ne (by decide)⟩, ⟨ne (by decide), e0 (by decide), ne (by decide)⟩, ⟨e0 (by decide), ne (by decide)⟩, e0' (by decide)⟩
 ·simp only [List.mem_cons, List.not_mem_nil, or_false, not_or]
  exact ⟨lt a1 4, lt a1 2, lt a1 3, Nat.ne_of_lt a1, lt a1 1⟩
 ·simp only [List.mem_cons, List.not_mem_nil, or_false, not_or]
  exact ⟨lt a2 4, lt a2 2, lt a2 3, Nat.ne_of_lt a2, lt a2 1⟩
end
end ZP
namespace L2
open PySem PySem.Spec PyProof.Rows ZP
section
variable {X : Cx} {pins : List (Addr × Obj)} {σ : St} {H : Hp} {s : Shared}
theorem Inv.zpd {h' : Heap} {t' : Nat} {fp : List Addr} (I : Inv X pins σ H s) (k : ∀ b o, b ∉ fp -> s.heap.get? b = some o -> h'.get? b = some o) (hf : ∀ b ∈ fp, zkg X pins H b) : Inv X pins σ H { s with heap := h', toks := t' } := by
 have nit : ∀ b u, H b = some u -> b ∉ fp := fun b u e z => by rw [(hf b z).1] at e; cases e
 refine I.step (g' := s.gens) (d' := s.drawn) (ch := fp) (fun b hb => ?_) (fun b o _ _ hc e _ => k b o hc e) (fun b o _ _ hc e _ => ⟨o.slots, k b o hc e⟩) (fun _ _ _ _ n => n)
  (fun b o hc e => ⟨o, k b o hc e⟩) (fun _ _ e => e) (fun _ _ _ e => e) (fun b ps e => ⟨#[], by rw [e]; simp⟩) (fun m hm => ?_) (fun b u e => ?_) I.bare
 ·obtain ⟨_, q1, _, q2, q3, q4⟩ := hf b hb
  exact ⟨q2, q1, q3, q4⟩
 ·obtain ⟨o, es, ep, ho, r⟩ := hm
  exact ⟨o, es, ep, k _ o (fun z => (hf _ z).2.1 rfl) ho, r⟩
 ·refine (I.hok b u e).zmb (fun c v hc q => k c v ?_ q) (fun _ q => q) fun _ _ q => q
  rcases hc with z | z
  ·rw [z]; exact nit b u e
  ·exact nit c _ z
def Sqk (K : PySem.W.Frag) (H : Hp) (k : Bool) (a : Addr) (xs : List V) : Prop := match k with
 | true => SqT K H a xs
 | false => SqL K H a xs
theorem Sqk.of (I : Inv X pins σ H s) {k : Bool} {a : Addr} {xs : List V} (h : Sqk X.K H k a xs) : ∃ its : List Value, Vals xs its /\ SQ s.heap k a its.toArray := by
 cases k with
 | true => obtain ⟨its, rv, p, _⟩ := I.tuple h; exact ⟨its, rv, p⟩
 | false => obtain ⟨its, rv, p, _⟩ := I.list h; exact ⟨its, rv, p.isList⟩
theorem Sqk.inj (I : Inv X pins σ H s) {k : Bool} {a : Addr} {xs ys : List V} (h : Sqk X.K H k a xs) (h' : Sqk X.K H k a ys) : xs = ys := by
 cases k with
 | true => exact I.zfL h h'
 | false => exact I.zg9 h h'
def Itz (K : PySem.W.Frag) (k1 k2 : Bool) (a1 a2 : Addr) : It :=
 ⟨fun i H => ∃ xs ys x y, Sqk K H k1 a1 xs /\ Sqk K H k2 a2 ys /\ xs[i]? = some x /\ ys[i]? = some y,
   fun i H v H' => ∃ p x y, v = .ref p /\ H p = none /\ H' = upd H p (.tup [x, y]) /\ (∀ xs, Sqk K H k1 a1 xs -> xs[i]? = some x) /\ ∀ ys, Sqk K H k2 a2 ys -> ys[i]? = some y,
   fun i H => ∃ xs ys, Sqk K H k1 a1 xs /\ Sqk K H k2 a2 ys /\ (xs.length <= i \/ ys.length <= i)⟩
theorem zma {P : Program} {w : World} {K : PySem.W.Frag} {es : List Expr} {kk} {pos : Pos} {k1 k2 : Bool} {z TI TO i1 i2 a1 a2 : Addr} (D : Far z TI TO i1 i2 a1 a2) :
  Turn P w K (.Tuple es kk pos) (Itz K k1 k2 a1 a2) [z, TI, TO, i1, i2] z (fun i h => At h k1 k2 z TI TO i1 i2 a1 a2 .none i) where
 mem := by simp
 obj := fun i h st b hb => by
  obtain ⟨q1, q2, ⟨_, _, q3⟩, ⟨o1, q4, _, d1⟩, ⟨o2, q5, _, d2⟩⟩ := st
  simp only [List.mem_cons, List.not_mem_nil, or_false] at hb
  rcases hb with e | e | e | e | e <;> subst e
  ·exact ⟨_, q1, fun v z => by cases z⟩
  ·exact ⟨_, q2, fun v z => by cases z⟩
  ·exact ⟨_, q3, fun v z => by cases z⟩
  ·exact ⟨_, q4, fun v z => by rw [d1] at z; cases z⟩
  ·exact ⟨_, q5, fun v z => by rw [d2] at z; cases z⟩
 keep := fun i h h' st k => st.keep k
 item := by
  intro X hP hw hK hc i pins s σ H E I hf st hg
  subst hP hw hK
  obtain ⟨xs, ys, x, y, g1, g2, hx, hy⟩ := hg
  obtain ⟨it1, rv1, q1⟩ := g1.of I
  obtain ⟨it2, rv2, q2⟩ := g2.of I
  obtain ⟨u1, e1, r1⟩ := rv1.get hx
  obtain ⟨u2, e2, r2⟩ := rv2.get hy
  refine ZP.item D st q1 q2 (x := u1) (y := u2) (by simpa using e1) (by simpa using e2) fun h' S' T' up => ⟨_, rfl, ?_⟩
  refine wpAny_letOwnedTupleGo_zip S'.z fun h2 z2 sb => ?_
  have nT : s.heap.objs.size ∉ [z, TI, TO, i1, i2] := fun hb => by
   obtain ⟨o, ho, _⟩ := (show ∃ o, s.heap.get? s.heap.objs.size = some o /\ True from by
    obtain ⟨w1, w2, ⟨_, _, w3⟩, ⟨o1, w4, _⟩, ⟨o2, w5, _⟩⟩ := st
    simp only [List.mem_cons, List.not_mem_nil, or_false] at hb
    rcases hb with e | e | e | e | e <;> rw [e]
    ·exact ⟨_, w1, trivial⟩
    ·exact ⟨_, w2, trivial⟩
    ·exact ⟨_, w3, trivial⟩
    ·exact ⟨_, w4, trivial⟩
    ·exact ⟨_, w5, trivial⟩)
   exact absurd (Heap.lt_size ho) (Nat.lt_irrefl _)
  have nz : s.heap.objs.size ≠ z := fun e => nT (by simp [e])
  have fr : H s.heap.objs.size = none := I.hok.fresh (Nat.le_refl _)
  have I1 : Inv X pins σ (upd H s.heap.objs.size (.tup [x, y])) { s with heap := s.heap.push { cls := .type "tuple", data := .seq [u1, u2].toArray }, toks := s.toks } :=
   I.laid (o := .tup [x, y]) (fun b u q => Heap.get?_push_of_some _ q) (Nat.le_refl _) ⟨by show 2 <= sizeLine; decide, [u1, u2], .cons r1 (.cons r2 .nil), IsTup.new _ _⟩
  have hf' : ∀ b ∈ [z, TI, TO, i1, i2], upd H s.heap.objs.size (.tup [x, y]) b = none := fun b hb => by
   rw [zbo (fun e => nT (by rw [<- e]; exact hb))]
   exact (hf b hb).1
  have kk : ∀ b o, b ∉ [z, TI, TO, i1, i2] -> (s.heap.push { cls := .type "tuple", data := .seq [u1, u2].toArray }).get? b = some o -> h2.get? b = some o := fun b o hb q => by
   have hbz : b ≠ z := fun e => hb (by simp [e])
   by_cases hbs : b = s.heap.objs.size
   ·subst hbs
    rw [Heap.get?_push_size _ rfl] at q
    cases q
    exact sb.extBut _ _ nz T'
   ·have q' : s.heap.get? b = some o := by rw [Heap.get?_push_ne _ _ _ hbs] at q; exact q
    exact sb.extBut _ _ hbz (up b o hb q')
  have I2 := Inv.zpd (h' := h2) (t' := s.toks) (fp := [z, TI, TO, i1, i2]) I1 kk fun b hb => ⟨hf' b hb, (hf b hb).2⟩
  refine ⟨.ref s.heap.objs.size, _, I2, rfl, ⟨_, x, y, rfl, fr, rfl, fun zs hz => by rw [hz.inj I g1]; exact hx, fun zs hz => by rw [hz.inj I g2]; exact hy⟩, ⟨z2, ?_, ?_, ?_, ?_⟩, hf'⟩
  ·have nd := D.nd
   simp only [List.nodup_cons, List.mem_cons, List.not_mem_nil, or_false, not_or] at nd
   exact sb.extBut _ _ (Ne.symm nd.1.1) S'.ti
  ·obtain ⟨a, b, e⟩ := S'.to
   have nd := D.nd
   simp only [List.nodup_cons, List.mem_cons, List.not_mem_nil, or_false, not_or] at nd
   exact ⟨a, b, sb.extBut _ _ (Ne.symm nd.1.2.1) e⟩
  ·have nd := D.nd
   simp only [List.nodup_cons, List.mem_cons, List.not_mem_nil, or_false, not_or] at nd
   exact S'.s1.on fun o q => sb.extBut _ _ (Ne.symm nd.1.2.2.1) q
  ·have nd := D.nd
   simp only [List.nodup_cons, List.mem_cons, List.not_mem_nil, or_false, not_or] at nd
   exact S'.s2.on fun o q => sb.extBut _ _ (Ne.symm nd.1.2.2.2) q
 done := by
  intro X hP hw hK hc i pins s σ H E I hf st hg
  subst hP hw hK
  obtain ⟨xs, ys, g1, g2, hx⟩ := hg
  obtain ⟨it1, rv1, q1⟩ := g1.of I
  obtain ⟨it2, rv2, q2⟩ := g2.of I
  have l1 := rv1.length
  have l2 := rv2.length
  refine ZP.stop (I.ok.hd hc) D st q1 q2 ?_ fun h' up => ⟨rfl, I.zpd (t' := s.toks) up hf⟩
  rcases hx with hx | hx
  ·exact .inl (by simp; omega)
  ·exact .inr (by simp; omega)
 self := fun _ _ _ _ _ st h => wpAny_pyIter_zip st.z h
def zsJ (K : PySem.W.Frag) (ta : TA) : TI := fun σ H R => ta σ H fun vs H1 => ∃ a1 a2 k1 k2, vs = [.ref a1, .ref a2] /\ (∃ xs, Sqk K H1 k1 a1 xs) /\ (∃ ys, Sqk K H1 k2 a2 ys) /\ R (Itz K k1 k2 a1 a2) H1
theorem zpF {a b : Expr} {ta : TA} {p pos pos' : Pos} {es : List Expr} {kk} (hg : Gl X "zip") (hm : X.mg "zip" = none) (ha : PA X [a, b] ta) (hs : starEach [a, b] X.env = [(false, eval a X.env), (false, eval b X.env)] := by rfl) (hs2 : starEach [b] X.env = [(false, eval b X.env)] := by rfl) :
  PI X (.Tuple es kk pos') (.Call (.Name "zip" p) [a, b] [] pos) (zsJ X.K ta) := by
 intro pins s σ H R I h
 refine Call_ (zgz I hg hm boot_zip (PyProof.Rows.callWith_type1 (thn (ha pos pins s σ H _ I h) fun us s1 ⟨vs, H1, I1, r1, q1⟩ => ?_) (by rw [hs, hs2]) (by rw [hs2]; rfl)))
 obtain ⟨a1, a2, k1, k2, rfl, ⟨xs, g1⟩, ⟨ys, g2⟩, q⟩ := q1
 cases r1 with
 | cons r rr =>
  cases rr with
  | cons r' rr =>
   cases rr
   cases r
   cases r'
   obtain ⟨it1, _, q1⟩ := g1.of I1
   obtain ⟨it2, _, q2⟩ := g2.of I1
   refine ZP.new q1 q2 fun h' z TI TO i1 i2 nw D S up => wpAny_pyIter_zip S.z ?_
   exact ⟨z, [z, TI, TO, i1, i2], _, _, H1, rfl, I1.kept (t' := s1.toks) up, zma D, S, fun b hb => I1.zrE (nw b hb) (I1.hok.fresh (nw b hb)), q⟩
end
end L2
namespace L5
open PySem PySem.Spec L2 L3
open PyProof.Rows hiding St
section
variable {X : Cx} {K : PySem.W.Frag} {a b : Expr} {tA : TDA} {pos p pos' : Pos}
def zsb (t : TDA) : TDI := fun δ S R => t δ S fun ds S1 => ∃ d e xs ys, ds = [d, e] /\ za7 d S1 = some xs /\ za7 e S1 = some ys /\ R ⟨List.zipWith (fun x y => D.tup [x, y]) xs ys, fun S => za7 d S = some xs /\ za7 e S = some ys⟩ S1
noncomputable def kOf : D -> Bool
 | .tup _ => true
 | _ => false
theorem za7.k {H : Hp} {S : SS} {d : D} {v : V} {ds : List D} (r : zau K H d v) (p : zbV K H S) (e : za7 d S = some ds) : ∃ a xs, v = .ref a /\ Sqk K H (kOf d) a xs /\ zak K H ds xs := by
 by_cases q : ∃ ts, d = .tup ts
 ·obtain ⟨ts, rfl⟩ := q
  cases e
  simp only [zau] at r
  obtain ⟨a, xs, h1, h2, h3⟩ := r
  exact ⟨a, xs, h1, h2, h3⟩
 ·obtain ⟨a, xs, h1, h2, h3⟩ := zej r p e fun ts z => q ⟨ts, z⟩
  refine ⟨a, xs, h1, ?_, h3⟩
  have : kOf d = false := by cases d <;> first | rfl | exact absurd ⟨_, rfl⟩ q
  rw [this]; exact h2
end
end L5
namespace L5
open PySem PySem.Spec L2 L3
open PyProof.Rows hiding St
section
variable {X : Cx} {K : PySem.W.Frag} {a b : Expr} {tA : TDA} {pos p pos' : Pos} {es : List Expr} {kk : Nat}
theorem zkW (hm : X.mg "zip" = none) (ha : PDA X [a, b] tA) (hg : Gl X "zip" := by rfl) (hs : starEach [a, b] X.env = [(false, eval a X.env), (false, eval b X.env)] := by rfl) (hs2 : starEach [b] X.env = [(false, eval b X.env)] := by rfl) :
  PDI X (.Tuple es kk pos') (.Call (.Name "zip" p) [a, b] [] pos) (zsb tA) := by
 refine ⟨fun δ S Q Q' hq z => ha.mo δ S _ _ (fun ds S1 ⟨d, e, xs, ys, h1, h2, h3, h4⟩ => ⟨d, e, xs, ys, h1, h2, h3, hq _ _ h4⟩) z, PI.imp (zpF hg hm ha.pa hs hs2) fun σ H R hu => ?_⟩
 obtain ⟨δ, S, r1, r2, z⟩ := hu
 refine upA.go ha.mo r1 r2 z fun ds S1 vs H1 h1 q1 e1 p1 => ?_
 obtain ⟨d, e, xs, ys, rfl, s1, s2, h⟩ := h1
 obtain ⟨v, u, rfl, d1, d2⟩ := q1.two
 obtain ⟨a1, us, rfl, g1, g2⟩ := za7.k d1 p1 s1
 obtain ⟨a2, ws, rfl, g3, g4⟩ := za7.k d2 p1 s2
 refine ⟨a1, a2, kOf d, kOf e, rfl, ⟨us, g1⟩, ⟨ws, g3⟩, h _ H1 e1 p1 fun i H2 S2 x1 x2 hk => ?_⟩
 obtain ⟨b1, us2, q1, m1, m2⟩ := za7.k (zau.ext x1 d d1) x2 hk.1
 cases q1
 obtain ⟨b2, ws2, q2, m3, m4⟩ := za7.k (zau.ext x1 e d2) x2 hk.2
 cases q2
 have l1 := m2.length
 have l2 := m4.length
 refine ⟨fun dd hd => ?_, fun hl => ⟨us2, ws2, m1, m3, ?_⟩⟩
 ·rw [List.getElem?_zipWith] at hd
  split at hd
  ·rename_i dx dy hx hy
   cases hd
   obtain ⟨x, hx', rx⟩ := m2.get hx
   obtain ⟨y, hy', ry⟩ := m4.get hy
   refine ⟨⟨us2, ws2, x, y, m1, m3, hx', hy'⟩, fun v H' q => ?_⟩
   obtain ⟨pp, x', y', rfl, hp, rfl, f1, f2⟩ := q
   have ex : x' = x := by have := f1 _ m1; rw [hx'] at this; exact (Option.some.inj this).symm
   have ey : y' = y := by have := f2 _ m3; rw [hy'] at this; exact (Option.some.inj this).symm
   subst ex ey
   refine ⟨.new hp _, x2.new hp, ?_⟩
   simp only [zau]
   exact ⟨pp, _, rfl, SqT.of zaA, zak.ext (.new hp _) _ (.cons rx (.cons ry .nil))⟩
  ·cases hd
 ·have hl' : (List.zipWith (fun x y => D.tup [x, y]) xs ys).length <= i := hl
  rw [List.length_zipWith] at hl'
  omega
@[simp] noncomputable def zo5 : List T -> Option (List T)
 | [x, y] => (zhF x).bind fun xs => (zhF y).map fun ys => List.zipWith (fun a b => T.tup [a, b]) xs ys
 | _ => none
theorem zkC {S : SS} : ∀ {ts us : List T} {ds es : List D}, Sns S ts ds -> Sns S us es -> Sns S (List.zipWith (fun a b => T.tup [a, b]) ts us) (List.zipWith (fun x y => D.tup [x, y]) ds es)
 | [], us, ds, es, h, h' => by simp only [Sns] at h; subst h; simpa using Sns.nil
 | t :: ts, [], ds, es, h, h' => by simp only [Sns] at h'; subst h'; simpa using Sns.nil
 | t :: ts, u :: us, ds, es, h, h' => by
  simp only [Sns] at h h'
  obtain ⟨c, cs, rfl, h1, h2⟩ := h
  obtain ⟨c', cs', rfl, h3, h4⟩ := h'
  exact Sns.cons (zfO (Sns.cons h1 (Sns.cons h3 Sns.nil))) (zkC h2 h4)
theorem za7.sx {S S' : SS} {d : D} {ds : List D} (h : za7 d S = some ds) (s : Sx S S') : za7 d S' = some ds := by
 unfold za7 at h ⊢
 split at h
 ·exact h
 ·exact h
 ·split at h
  ·rename_i q
   cases h
   rw [s _ _ q]
  ·cases h
 ·cases h
theorem zjc {g : Ev -> Option (List T)} (h : OkA g tA) : OkI false (itA zo5 g) (zsb tA) := fun S Z δ ρ ts Q hE e hq => by
 obtain ⟨ys, e1, e2⟩ := Option.bind_eq_some_iff.mp e
 refine h S Z δ ρ ys _ hE e1 fun ds S1 s1 r1 => ?_
 unfold zo5 at e2
 split at e2
 ·obtain ⟨xs, e3, e4⟩ := Option.bind_eq_some_iff.mp e2
  obtain ⟨zs, e5, rfl⟩ := Option.map_eq_some_iff.mp e4
  obtain ⟨d, d', rfl, h1, h2⟩ := zrU r1
  obtain ⟨es, g1, g2⟩ := h1.seq e3
  obtain ⟨es', g3, g4⟩ := h2.seq e5
  exact ⟨d, d', es, es', rfl, g1, g3, hq _ S1 s1 (zkC g2 g4) fun S'' s => ⟨za7.sx g1 s, za7.sx g3 s⟩⟩
 ·cases e2
end
end L5
namespace HT
open PySem PyProof.Rows
section
variable {prog : Program} {w : World} {A : Around} {E : Value -> Shared -> Prop} {s : Shared}
theorem zlF {t sl : Addr} {items : Array Value} {vl vu : Value} {lo hi : Option Int} {Q : Value -> Shared -> Prop} (ht : IsTup s.heap t items) (hs : s.heap.IsSliceOf sl vl vu .none) (pl : IsPart vl lo) (pu : IsPart vu hi)
  (hw : sIx items.size 0 lo = 0 /\ sIx items.size items.size hi = items.size) (h : Q (.ref t) s) : wpAny (model prog w) A (getItem (.ref t) (.ref sl)) Q E s := by
 have hT := ht.typeIs
 obtain ⟨os, e1, e2, e3⟩ := id hs
 have hS : s.TypeIs (.ref sl) "slice" := ⟨os, e1, e2⟩
 unfold getItem
 try with_reducible refine wpAny_holding ?_
 first | refine wpAny_bind (wpAny_pure ?_) | skip
 refine wpAny_bind (wpAny_sequenceKey hT (by decide) (wpAny_bind (wpAny_callSpecial?_slot (name := Str.ofString "__getitem__") hT PyProof.Rows.slot_tuple_getitem (wpAny_call_entry PyProof.Rows.slot_tuple_getitem hT entry_tuple_getitem ?_ (args_tuple_getitem _ _)))))
 refine wpAny_bind (m := Builtin.Tuple.tupleItemsOf (.ref t)) (tupleItemsOf_ ht (wpAny_bind (wpAny_typeOf hS ?_)))
 rw [if_pos (by decide)]
 refine wpAny_bind (zdA hs pl pu ?_)
 have yes : (((sIx items.size 0 lo : Nat) : Int) == 0 && (1 : Int) == 1 && (sIx items.size items.size hi - sIx items.size 0 lo) == items.size) = true := by rw [hw.1, hw.2]; simp
 show wpAny _ _ (if (((sIx items.size 0 lo : Nat) : Int) == 0 && (1 : Int) == 1 && (sIx items.size items.size hi - sIx items.size 0 lo) == items.size) = true then _ else _) _ _ s
 rw [if_pos yes]
 refine wpAny_bind (m := Builtin.Tuple.tupleIsExact (.ref t)) (wpAny_bind (wpAny_typeOf hT (wpAny_pure ?_)))
 rw [if_pos (by decide)]
 first
  | exact wpAny_bind (wpAny_rule (wpAny_pure ⟨_, rfl, wpAny_pure h⟩))
  | exact wpAny_bind (wpAny_rule (wpAny_bind (wpAny_pure (wpAny_pure ⟨_, rfl, wpAny_pure h⟩))))
end
end HT
namespace L2
open PySem PySem.Spec PyProof.Rows
section
variable {X : Cx}
def zr2 (K : PySem.W.Frag) : V -> Option Int -> Option Int -> Hp -> VK -> Prop := fun x lo hi H Q => ∃ a xs, x = .ref a /\ SqT K H a xs /\ (HT.sIx xs.length 0 lo = 0 /\ HT.sIx xs.length xs.length hi = xs.length) /\ Q (.ref a) H
theorem zmd : SlR X (zr2 X.K) := by
 intro pins s σ H x v vl vu lo hi sl Q I rx hs pl pu h
 obtain ⟨a, xs, rfl, hx, hw, q⟩ := h
 cases rx
 obtain ⟨its, r, ht, hz⟩ := I.tuple hx
 have hlen : its.toArray.size = xs.length := by rw [List.size_toArray]; exact r.length.symm
 exact ⟨"tuple", _, PyProof.Rows.slot_tuple_getitem.lookup, ht.typeIs, HT.zlF ht hs pl pu (by rw [hlen]; exact hw) ⟨.ref a, H, I, rfl, q⟩⟩
end
end L2
namespace L5
open PySem PySem.Spec L2 L3
open PyProof.Rows hiding St
noncomputable def zgE {α : Type} (xs : List α) (lo hi : Option Int) : List α := (xs.drop (HT.sIx xs.length 0 lo)).take (HT.sIx xs.length xs.length hi - HT.sIx xs.length 0 lo)
section
variable {X : Cx} {K : PySem.W.Frag} {e : Expr} {lo hi : Option Expr} {te : TDE} {tl th : Option TDE} {pos p2 : Pos}
def zlD (t : Option TDE) : StD -> SS -> (Option Int -> SS -> Prop) -> Prop := fun δ S Q => match t with
 | none => Q none S
 | some t => t δ S fun d S1 => match d with
  | .int i => Q (some i) S1
  | _ => False
def MoO (t : Option TDE) : Prop := ∀ u, t = some u -> MoE u
theorem zlD.mo (h : MoO tl) : ∀ δ S (Q Q' : Option Int -> SS -> Prop), (∀ d S', Q d S' -> Q' d S') -> zlD tl δ S Q -> zlD tl δ S Q' := fun δ S Q Q' hq z => by
 cases tl with
 | none => exact hq _ _ z
 | some t => exact h t rfl δ S _ _ (fun d S1 z => by cases d <;> first | exact hq _ _ z | exact z) z
noncomputable def upO (K : PySem.W.Frag) (t : Option TDE) : TO := fun σ H Q => ∃ δ S, zb6 K H δ σ /\ zbV K H S /\ zlD t δ S fun o S1 => ∀ H1, Ext H H1 -> zbV K H1 S1 -> Q o H1
structure PDO (X : Cx) (e : Option Expr) (t : Option TDE) : Prop where
 mo : MoO t
 po : PO X e (upO X.K t)
theorem zeI : PDO X none none := ⟨nofun, fun pins s σ H Q I h => by
 obtain ⟨δ, S, r1, r2, z⟩ := h
 exact zn4 pins s σ H Q I (z H (.refl H) r2)⟩
theorem zeH (h : PD X e te) : PDO X (some e) (some te) := ⟨fun u q => by cases q; exact h.mo, fun pins s σ H Q I hu => by
 refine zn3 h.pe pins s σ H Q I ?_
 obtain ⟨δ, S, r1, r2, z⟩ := hu
 refine upE.go h.mo r1 r2 z fun d S1 v H1 h1 q1 e1 p1 => ?_
 cases d with
 | int i => simp only [zau] at q1; exact ⟨i, q1, h1 H1 e1 p1⟩
 | non => exact h1.elim
 | bl _ => exact h1.elim
 | str _ => exact h1.elim
 | tup _ => exact h1.elim
 | rol _ => exact h1.elim
 | ref _ => exact h1.elim⟩
def fSl (d : D) (lo hi : Option Int) (S : SS) (Q : DK) : Prop := match d with
 | .tup ds => Q (.tup (zgE ds lo hi)) S
 | d => ∃ ds, za7 d S = some ds /\ ∀ p, S p = none -> Q (.ref p) (ups S p (.lst (zgE ds lo hi)))
theorem fSl.mo {d : D} {lo hi : Option Int} {S : SS} {Q Q' : DK} (hq : ∀ d S', Q d S' -> Q' d S') (h : fSl d lo hi S Q) : fSl d lo hi S Q' := by
 unfold fSl at h ⊢
 split at h
 ·exact hq _ _ h
 ·obtain ⟨ds, h1, h2⟩ := h
  exact ⟨ds, h1, fun p hp => hq _ _ (h2 p hp)⟩
theorem zak.cut {H : Hp} {ds : List D} {xs : List V} (h : zak K H ds xs) (lo hi : Option Int) : zak K H (zgE ds lo hi) (zl4 xs lo hi) := by
 have hd : ∀ {ds : List D} {xs : List V} (n : Nat), zak K H ds xs -> zak K H (ds.drop n) (xs.drop n) := by
  intro ds
  induction ds with
  | nil => intro xs n h; simp only [zak] at h; subst h; simpa using zak.nil
  | cons d ds ih =>
   intro xs n h
   simp only [zak] at h
   obtain ⟨y, ys, rfl, h1, h2⟩ := h
   cases n with
   | zero => exact .cons h1 h2
   | succ n => exact ih n h2
 have ht : ∀ {ds : List D} {xs : List V} (n : Nat), zak K H ds xs -> zak K H (ds.take n) (xs.take n) := by
  intro ds
  induction ds with
  | nil => intro xs n h; simp only [zak] at h; subst h; simpa using zak.nil
  | cons d ds ih =>
   intro xs n h
   simp only [zak] at h
   obtain ⟨y, ys, rfl, h1, h2⟩ := h
   cases n with
   | zero => exact .nil
   | succ n => exact .cons h1 (ih n h2)
 unfold zgE zl4
 rw [h.length]
 exact ht _ (hd _ h)
theorem zj7 {xs : List V} {lo hi : Option Int} (h : HT.sIx xs.length 0 lo = 0 /\ HT.sIx xs.length xs.length hi = xs.length) : zl4 xs lo hi = xs := by
 unfold zl4
 rw [h.1, h.2]
 simp
abbrev rSl (K : PySem.W.Frag) : V -> Option Int -> Option Int -> Hp -> VK -> Prop := fun x lo hi H Q => zr4 K x lo hi H Q \/ (zr3 K x lo hi H Q \/ zr2 K x lo hi H Q)
theorem fSl.fits {d : D} {v : V} {lo hi : Option Int} {H : Hp} {S : SS} {Q : VK} (h1 : zau K H d v) (h2 : zbV K H S) (h : fSl d lo hi S (dnK K H Q)) : rSl K v lo hi H Q := by
 unfold fSl at h
 split at h
 ·simp only [zau] at h1
  obtain ⟨a, xs, rfl, g1, g2⟩ := h1
  by_cases hw : HT.sIx xs.length 0 lo = 0 /\ HT.sIx xs.length xs.length hi = xs.length
  ·refine .inr (.inr ⟨a, xs, rfl, g1, hw, h _ H ?_ (.refl H) h2⟩)
   simp only [zau]
   refine ⟨a, xs, rfl, g1, ?_⟩
   have := zak.cut g2 lo hi
   rw [zj7 hw] at this
   exact this
  ·refine .inr (.inl ⟨a, xs, rfl, g1, hw, fun p hp => h _ _ ?_ (.new hp _) (h2.new hp)⟩)
   simp only [zau]
   exact ⟨p, _, rfl, SqT.of zaA, zak.ext (.new hp _) _ (zak.cut g2 lo hi)⟩
 ·rename_i hn
  obtain ⟨ds, e, h⟩ := h
  obtain ⟨a, xs, rfl, g1, g2⟩ := zej h1 h2 e (fun ts z => hn ts z)
  exact .inl ⟨a, xs, rfl, g1, fun p hp => h p (h2.none hp) _ _ (by simp only [zau]) (.new hp _) (h2.ups (.new hp _) ⟨_, zaA, zak.ext (.new hp _) _ (zak.cut g2 lo hi)⟩)⟩
def dSl (te : TDE) (tl th : Option TDE) : TDE := fun δ S Q => te δ S fun x S1 => zlD tl δ S1 fun l S2 => zlD th δ S2 fun u S3 => fSl x l u S3 Q
theorem zeJ (he : PD X e te) (hl : PDO X lo tl) (hh : PDO X hi th) : PD X (.Subscript e (.Slice lo hi none p2) pos) (dSl te tl th) := by
 refine ⟨fun δ S Q Q' hq z => he.mo δ S _ _ (fun x S1 z => zlD.mo hl.mo δ S1 _ _ (fun l S2 z => zlD.mo hh.mo δ S2 _ _ (fun u S3 z => fSl.mo hq z) z) z) z,
  PE.imp (zmq (znR.or (zpj.or zmd)) he.pe hl.po hh.po) fun σ H Q hu => ?_⟩
 obtain ⟨δ, S, r1, r2, z⟩ := hu
 refine upE.go he.mo r1 r2 z fun x S1 v H1 h1 q1 e1 p1 => ?_
 refine ⟨δ, S1, r1.ext e1, p1, zlD.mo hl.mo δ S1 _ _ (fun l S2 h2 H2 e2 p2 => ?_) h1⟩
 refine ⟨δ, S2, (r1.ext e1).ext e2, p2, zlD.mo hh.mo δ S2 _ _ (fun u S3 h3 H3 e3 p3 => ?_) h2⟩
 exact fSl.fits (zau.ext (e2.trans e3) x q1) p3 (fSl.mo (fun d S' z => z.ext ((e1.trans e2).trans e3)) h3)
@[simp] noncomputable def zqR : Option (Ev -> Option T) -> Ev -> Option (Option Int)
 | none, _ => some none
 | some f, ρ => (f ρ).bind fun x => match x with
  | .int i => some (some i)
  | _ => none
def OkB (f : Option (Ev -> Option T)) (t : Option TDE) : Prop := ∀ S Z δ ρ y Q, ER S Z δ ρ -> zqR f ρ = some y -> (∀ S', Sx S S' -> Q y S') -> zlD t δ S Q
theorem zeQ : OkB none none := fun S Z δ ρ y Q hE e hq => by cases e; exact hq S (.refl S)
theorem zeP {f : Ev -> Option T} (h : OkR f te) : OkB (some f) (some te) := fun S Z δ ρ y Q hE e hq => by
 obtain ⟨x, e1, e2⟩ := Option.bind_eq_some_iff.mp e
 refine h S Z δ ρ x _ hE e1 fun d S1 s1 r1 => ?_
 split at e2
 ·cases e2
  cases Vw.int r1
  exact hq S1 s1
 ·cases e2
@[simp] noncomputable def zq0 (lo hi : Option Int) : T -> Option T
 | .tup ts => some (.tup (zgE ts lo hi))
 | .lst ts => some (.lst (zgE ts lo hi))
 | _ => none
@[simp] noncomputable def zng (f : Ev -> Option T) (lo hi : Option (Ev -> Option T)) : Ev -> Option T := fun ρ => (f ρ).bind fun x => (zqR lo ρ).bind fun l => (zqR hi ρ).bind fun u => zq0 l u x
theorem Sns.cut {S : SS} {ts : List T} {ds : List D} (h : Sns S ts ds) (lo hi : Option Int) : Sns S (zgE ts lo hi) (zgE ds lo hi) := by
 unfold zgE
 rw [h.len]
 exact Sns.take' _ (Sns.drop' _ h)
theorem zhT {f : Ev -> Option T} {l u : Option (Ev -> Option T)} (h : OkR f te) (hl : OkB l tl) (hu : OkB u th) : OkF (zng f l u) (dSl te tl th) := fun S Z δ ρ y Q hE e hq => by
 obtain ⟨x, e1, e⟩ := Option.bind_eq_some_iff.mp e
 obtain ⟨l', e2, e⟩ := Option.bind_eq_some_iff.mp e
 obtain ⟨u', e3, e⟩ := Option.bind_eq_some_iff.mp e
 refine h S Z δ ρ x _ hE e1 fun d S1 s1 r1 => ?_
 refine hl S1 Z δ ρ l' _ (hE.grow s1) e2 fun S2 s2 => ?_
 refine hu S2 Z δ ρ u' _ (hE.grow (s1.trans s2)) e3 fun S3 s3 => ?_
 have r3 : Vw S3 Z x d := Vw.grow r1 (s2.trans s3)
 have hz := (hE.grow ((s1.trans s2).trans s3)).zd
 unfold zq0 at e
 split at e
 ·cases e
  obtain ⟨ds, rfl, h2⟩ := r3.tup
  exact hq _ S3 ((s1.trans s2).trans s3) (Cl.of (fun _ => nofun) (zfO (Sns.cut h2 _ _)))
 ·cases e
  obtain ⟨ds, h1, h2⟩ := r3.seq rfl
  have key : ∃ ds, za7 d S3 = some ds /\ ∀ p, S3 p = none -> Q (.ref p) (ups S3 p (.lst (zgE ds l' u'))) := ⟨ds, h1, fun p hp => hq _ _ (((s1.trans s2).trans s3).trans (.new hp _)) (Cl.cl ((s1.trans s2).trans s3) (zdO hz hp (Sns.cut h2 _ _)))⟩
  obtain ⟨_, q | ⟨a, q, _⟩, _⟩ := r3.lst
  ·subst q; exact key
  ·subst q; exact key
 ·cases e
end
end L5
namespace TM
open PySem PyProof.Rows
set_option maxRecDepth 100000
theorem noFill : fillsNumberSlot (.type "tuple") "mul" = pure false :=
 PySem.fillsNumberSlot_seq (id := "tuple.__mul__") (r := some (.builtin "tuple.__rmul__")) F.slot_tuple_mul.lookup (by decide +kernel) F.slot_tuple_rmul.lookup (by decide +kernel)
theorem rep : seqRepeat? (.type "tuple") = pure (some (.builtin "tuple.__mul__")) := by
 have a := PySem.seqSlot_of (T := "tuple") (name := "__mul__") (id := "tuple.__mul__") F.slot_tuple_mul.lookup (by decide +kernel)
 have b := PySem.seqSlot_of (T := "tuple") (name := "__rmul__") (id := "tuple.__rmul__") F.slot_tuple_rmul.lookup (by decide +kernel)
 unfold seqRepeat?
 rw [a, b]
 rfl
theorem declines (i : Int) (t : Tok) (l : Addr) (items : Array Value) (n : Nat) (dd : Option Addr) (sl : Array (Option Value)) :
  Meets (Builtin.«int.__rmul__» ⟨[.int i t, .ref l], []⟩) (fun _ R s => s.heap.get? l = some { cls := .type "tuple", dict := dd, data := .seq items n, slots := sl } /\ R (.ok (.ret Value.notImplemented)) s) :=
 .of_wp fun prog w A R s h => by
  obtain ⟨hp, g, d, tk, os⟩ := s
  obtain ⟨hl, h⟩ := h
  wp_walk
  exact ⟨_, rfl, h⟩
theorem zgB {α : Type} (xs : List α) : ∀ (m : Nat) (acc : Array α), (List.replicate m xs.toArray).foldl (· ++ ·) acc = acc ++ (List.replicate m xs).flatten.toArray
 | 0, acc => by simp
 | m + 1, acc => by
  rw [List.replicate_succ, List.foldl_cons, zgB xs m, List.replicate_succ, List.flatten_cons, Array.append_assoc]
  simp
theorem zsC (k : Int) (t : Tok) (l : Addr) (items : Array Value) (n : Nat) (dd : Option Addr) (sl : Array (Option Value)) (h1 : ¬ (decide (k < -(2 ^ 63)) || decide (k ≥ 2 ^ 63)) = true) (h2 : ¬ (items.isEmpty || k == 1) = true) (h3 : ¬ (decide (k <= 0) || items.isEmpty) = true)
  (h4 : ¬ (items.size * k > (2 ^ 63 - 1) / 8)) (h5 : ¬ Builtin.Tuple.tupleTooMany (items.size * k) = true) (h6 : ((List.replicate k.toNat items).foldl (· ++ ·) #[]).size <= sizeLine) :
  Meets (Builtin.«tuple.__mul__» ⟨[.ref l, .int k t], []⟩) (fun _ R s => s.heap.get? l = some { cls := .type "tuple", dict := dd, data := .seq items n, slots := sl } /\
   R (.ok (.ret (.ref s.heap.objs.size))) { s with heap := s.heap.push { cls := .type "tuple", data := .seq ((List.replicate k.toNat items).foldl (· ++ ·) #[]) } }) :=
 .of_wp fun prog w A R s h => by
  obtain ⟨hp, g, d, tk, os⟩ := s
  obtain ⟨hl, h⟩ := h
  have e0 : IsTup (Shared.heap ⟨hp, g, d, tk, os⟩) l items := ⟨_, hl, rfl, n, rfl⟩
  wp_walk
  rw [if_neg h1]
  refine wpAny_bind (m := Builtin.Tuple.tupleItemsOf (.ref l)) (tupleItemsOf_ e0 ?_)
  dsimp only
  rw [if_neg h2, if_neg h3, if_neg h4, if_neg h5]
  exact wpAny_bind (m := Builtin.Tuple.tupleExact _) (wpAny_newObj_type (wpAny_pure ⟨_, rfl, h⟩) h6)
theorem zsD (t : Tok) (l : Addr) (items : Array Value) (n : Nat) (dd : Option Addr) (sl : Array (Option Value)) :
  Meets (Builtin.«tuple.__mul__» ⟨[.ref l, .int 1 t], []⟩) (fun _ R s => s.heap.get? l = some { cls := .type "tuple", dict := dd, data := .seq items n, slots := sl } /\ R (.ok (.ret (.ref l))) s) :=
 .of_wp fun prog w A R s h => by
  obtain ⟨hp, g, d, tk, os⟩ := s
  obtain ⟨hl, h⟩ := h
  have c : (items.isEmpty || (1 : Int) == 1) = true := by simp
  wp_walk
  exact ⟨_, rfl, h⟩
section
variable {prog : Program} {w : World} {A : Around} {E : Value -> Shared -> Prop} {s : Shared}
theorem times {l : Addr} {its : List Value} {k : Int} {t : Tok} {Q : Value -> Shared -> Prop} (ht : IsTup s.heap l its.toArray) (hne : its ≠ []) (h0 : 1 <= k) (hz : its.length * k.toNat <= sizeLine)
  (one : k = 1 -> Q (.ref l) s) (more : k ≠ 1 -> Q (.ref s.heap.objs.size) { s with heap := s.heap.push { cls := .type "tuple", data := .seq (List.replicate k.toNat its).flatten.toArray } }) :
  wpAny (model prog w) A (binaryOp .Mult (.ref l) (.int k t)) Q E s := by
 have hT := ht.typeIs
 obtain ⟨⟨cls, dd, data, sl⟩, ho, hc, n, hd⟩ := id ht
 simp only at hc hd
 subst hc hd
 refine wpAny_binaryOp_repeat_ref (T := "tuple") (U := "int") (by decide) hT (fun s' => typeIs_int s' k t) noFill F.fills_int_mul F.slot_int_rmul rep F.slot_int_index.lookup
  (call_meets F.slot_int_rmul (typeIs_int s k t) F.entry_int_rmul (F.args_int_rmul_2 _ _) (declines k t l its.toArray n dd sl) ⟨ho, rfl, hT, ?_⟩)
 have hlen : 0 < its.length := List.length_pos_iff.mpr hne
 have hem : its.toArray.isEmpty = false := by cases its with
  | nil => exact absurd rfl hne
  | cons a r => rfl
 by_cases h1 : k = 1
 ·subst h1
  exact call_meets F.slot_tuple_mul hT F.entry_tuple_mul (F.args_tuple_mul_2 _ _) (zsD t l its.toArray n dd sl) ⟨ho, one rfl⟩
 ·have hks : k.toNat <= sizeLine := Nat.le_trans (Nat.le_mul_of_pos_left _ hlen) hz
  have hl : sizeLine = 16777216 := rfl
  have hk2 : k <= 16777216 := by omega
  have hcast : ((its.toArray.size : Nat) : Int) * k = ((its.length * k.toNat : Nat) : Int) := by
   rw [List.size_toArray, Int.natCast_mul, Int.toNat_of_nonneg (by omega)]
  have hf : (List.replicate k.toNat its.toArray).foldl (· ++ ·) #[] = (List.replicate k.toNat its).flatten.toArray := by rw [zgB]; simp
  have hfl : (List.replicate k.toNat its).flatten.length = k.toNat * its.length := by simp
  refine call_meets F.slot_tuple_mul hT F.entry_tuple_mul (F.args_tuple_mul_2 _ _) (zsC k t l its.toArray n dd sl ?_ ?_ ?_ ?_ ?_ ?_) ⟨ho, ?_⟩
  ·simp only [Bool.or_eq_true, decide_eq_true_eq, not_or]
   exact ⟨by omega, by omega⟩
  ·rw [hem]; simpa using h1
  ·rw [hem]; simp; omega
  ·rw [hcast]; omega
  ·rw [hcast]
   intro q
   unfold Builtin.Tuple.tupleTooMany at q
   have := of_decide_eq_true q
   omega
  ·rw [hf, List.size_toArray, hfl, Nat.mul_comm]; exact hz
  ·rw [hf]; exact more h1
end
end TM
namespace L2
open PySem PySem.Spec PyProof.Rows
def zpu (K : PySem.W.Frag) : R2 := fun x y H Q => ∃ a k xs, x = .ref a /\ y = .int k /\ SqT K H a xs /\ xs ≠ [] /\ 1 <= k /\ xs.length * k.toNat <= sizeLine /\ (k = 1 -> Q (.ref a) H) /\ (k ≠ 1 -> ∀ p, H p = none -> Q (.ref p) (upd H p (.tup (List.replicate k.toNat xs).flatten)))
theorem zom {X : Cx} : OpR X (binaryOp .Mult) (zpu X.K) := by
 intro pins s σ H x y v u Q I rx ry h
 obtain ⟨a, k, xs, rfl, rfl, hx, hne, h1, hz, q1, q2⟩ := h
 cases rx
 obtain ⟨t, rfl⟩ := ry
 obtain ⟨its, r, ht, _⟩ := I.tuple hx
 have hl := r.length
 refine TM.times ht (fun z => hne (r.zg5.mp z)) h1 (by rw [<- hl]; exact hz) (fun e => ⟨.ref a, H, I, rfl, q1 e⟩) fun e => ?_
 have hlen : (List.replicate k.toNat xs).flatten.length <= sizeLine := by
  have : (List.replicate k.toNat xs).flatten.length = k.toNat * xs.length := by simp
  rw [this, Nat.mul_comm]; exact hz
 exact ⟨.ref _, _, I.laid (t' := s.toks) (o := .tup (List.replicate k.toNat xs).flatten) (fun b ob q => Heap.get?_push_of_some _ q) (Nat.le_refl _) ⟨hlen, _, r.rep k.toNat, IsTup.new _ _⟩, rfl, q2 e _ (I.hok.fresh (Nat.le_refl _))⟩
end L2
namespace L5
open PySem PySem.Spec L2 L3
open PyProof.Rows hiding St
section
variable {X : Cx} {K : PySem.W.Frag} {a b : Expr} {ta tb : TDE} {pos : Pos}
def zgn : RD2 := fun x y S Q => match x, y with
 | .int i, .int j => ziZ i j /\ Q (.int (i * j)) S
 | .tup ds, .int k => (ds ≠ [] /\ 1 <= k /\ ds.length * k.toNat <= sizeLine) /\ Q (.tup (List.replicate k.toNat ds).flatten) S
 | _, _ => False
noncomputable def zd6 : T -> T -> Option T
 | .int i, .int j => if ziZ i j then some (.int (i * j)) else none
 | .tup ts, .int k => if ts ≠ [] /\ 1 <= k /\ ts.length * k.toNat <= sizeLine then some (.tup (List.replicate k.toNat ts).flatten) else none
 | _, _ => none
theorem zgn.mo : MoR zgn := fun x y S Q Q' hq h => by
 unfold zgn at h ⊢
 split at h
 ·exact ⟨h.1, hq _ _ h.2⟩
 ·exact ⟨h.1, hq _ _ h.2⟩
 ·exact h.elim
theorem zak.rep {H : Hp} {ds : List D} {xs : List V} (h : zak K H ds xs) : ∀ n : Nat, zak K H (List.replicate n ds).flatten (List.replicate n xs).flatten
 | 0 => .nil
 | n + 1 => by
  rw [List.replicate_succ, List.replicate_succ, List.flatten_cons, List.flatten_cons]
  exact h.append (zak.rep h n)
theorem zgn.fits : zcZ K zgn (fun x y H Q => rI ziZ (fun i j => .int (i * j)) x y H Q \/ zpu K x y H Q) := fun x y d e H S Q h1 h2 h3 h => by
 unfold zgn at h
 split at h
 ·simp only [zau] at h1 h2
  exact .inl ⟨_, _, h1, h2, h.1, h.2 _ H (by simp only [zau]) (.refl H) h3⟩
 ·rename_i ds k
  obtain ⟨⟨c1, c2, c3⟩, h⟩ := h
  have h1' := h1
  simp only [zau] at h1 h2
  obtain ⟨a, xs, rfl, g1, g2⟩ := h1
  have hl := g2.length
  refine .inr ⟨a, k, xs, rfl, h2, g1, fun z => c1 (by subst z; cases ds with | nil => rfl | cons _ _ => simp at hl), c2, by rw [<- hl]; exact c3, fun e => ?_, fun e p hp => ?_⟩
  ·subst e
   refine h _ H ?_ (.refl H) h3
   have : (List.replicate (1 : Int).toNat ds).flatten = ds := by simp
   rw [this]; exact h1'
  ·refine h _ _ ?_ (.new hp _) (h3.new hp)
   simp only [zau]
   exact ⟨p, _, rfl, SqT.of zaA, zak.ext (.new hp _) _ (zak.rep g2 _)⟩
 ·exact h.elim
theorem Sns.rep {S : SS} {ts : List T} {ds : List D} (h : Sns S ts ds) : ∀ n : Nat, Sns S (List.replicate n ts).flatten (List.replicate n ds).flatten
 | 0 => .nil
 | n + 1 => by
  rw [List.replicate_succ, List.replicate_succ, List.flatten_cons, List.flatten_cons]
  exact h.append (Sns.rep h n)
theorem zbZ : Good2 RkF zd6 zgn := fun S Z x y z d e Q hz hx hy ef hq => by
 unfold zd6 at ef
 split at ef
 ·split at ef
  ·rename_i hc
   cases ef
   cases hx.int; cases hy.int
   exact ⟨hc, hq _ S (.refl S) (Cl.of (fun _ => nofun) zda)⟩
  ·cases ef
 ·split at ef
  ·rename_i hc
   cases ef
   obtain ⟨ds, rfl, h2⟩ := hx.tup
   cases hy.int
   have hl := h2.len
   exact ⟨⟨fun q => hc.1 (by subst q; simpa using hl.symm), hc.2.1, by rw [hl]; exact hc.2.2⟩, hq _ S (.refl S) (Cl.of (fun _ => nofun) (zfO (Sns.rep h2 _)))⟩
  ·cases ef
 ·cases ef
theorem zcM (ha : PD X a ta) (hb : PD X b tb) : PD X (.BinOp a .Mult b pos) (dOp zgn ta tb) := zhO (zp5.or zom) zgn.fits zgn.mo ha hb
end
end L5
namespace L4
open PySem PyProof.Rows
section
variable {prog : Program} {w : World} {A : Around} {E : Value -> Shared -> Prop} {s : Shared}
theorem zmU {l : Addr} {vs : List Value} {Q : List Value -> Shared -> Prop} (hl : IsTup s.heap l vs.toArray) (hz : vs.length <= sizeLine)
  (h : Q vs { s with heap := (s.heap.push (seqObj "list" #[] 0)).update s.heap.objs.size (Obj.mapSeq (· ++ vs.toArray)) }) : wpAny (model prog w) A (collect (.ref l)) Q E s := by
 obtain ⟨o, ho, hc, n, hd⟩ := id hl
 have new : (s.heap.push (seqObj "list" #[] 0)).get? s.heap.objs.size = some (seqObj "list" #[] 0) := Heap.get?_push_size _ rfl
 have ho' : (s.heap.push (seqObj "list" #[] 0)).get? l = some o := Heap.get?_push_of_some _ ho
 unfold collect
 refine wpAny_bind (wpAny_runValue (codeAny_builtin entry_proto_collect' (wpAny_bind (m := newList []) (wpAny_newList (wpAny_pure ⟨Code.quiet_builtin _ (by decide +kernel), codeAny_builtin entry_list_iadd' ?_⟩)))))
 show wpAny _ _ (Builtin.List.listExtendWith (.ref s.heap.objs.size) (.ref l) (.ref s.heap.objs.size)) _ _ { s with heap := s.heap.push (seqObj "list" #[] 0) }
 unfold Builtin.List.listExtendWith
 refine wpAny_bind (wpAny_typeOf (T := "tuple") ⟨o, ho', hc⟩ ?_)
 rw [if_pos (by rw [show (Value.type "tuple" == Value.type "tuple") = true from rfl]; simp)]
 refine wpAny_bind (listItems_at ho' hd (wpAny_bind (listItems_at (xs := #[]) (n := 0) new rfl ?_)))
 rw [if_neg (by simp)]
 refine wpAny_bind (listUpdate_at (xs := #[]) (n := 0) new rfl (wpAny_pure ?_) (Nat.zero_le _) (by show (#[] ++ vs.toArray).size <= sizeLine + 1; simp only [Array.size_append, List.size_toArray, List.length_nil]; omega))
 refine wpAny_bind (m := load s.heap.objs.size) (wpAny_load (get?_update_seq new _) ?_)
 show wpAny _ _ (pure ((#[] : Array Value) ++ vs.toArray).toList) Q E _
 have e : ((#[] : Array Value) ++ vs.toArray).toList = vs := by simp
 rw [e]
 exact wpAny_pure h
theorem zjC {l : Addr} {vs : List Value} {Q : Value -> Shared -> Prop} {Out : Array Value -> Prop} (hl : IsTup s.heap l vs.toArray) (hz : vs.length <= sizeLine)
  (core : 2 <= vs.length -> ∀ s6 : Shared, (∀ b o, s.heap.get? b = some o -> s6.heap.get? b = some o) -> Core prog w A.in1.in1 E vs Out s6) (short : vs.length < 2 -> Out vs.toArray)
  (fin : ∀ out : Array Value, Out out -> out.size = vs.length -> Q (.ref (s.heap.objs.size + 1)) { s with heap := sortedAll s.heap vs out }) :
  wpAny (model prog w) A (call (.builtin "sorted") [.ref l]) Q E s := by
 let h1 := (s.heap.push (seqObj "list" #[] 0)).update s.heap.objs.size (Obj.mapSeq (· ++ vs.toArray))
 have sz : h1.objs.size = s.heap.objs.size + 1 := by show (Heap.update _ _ _).objs.size = _; rw [Heap.size_update, size_push']
 have there : (h1.push (seqObj "list" vs.toArray 0)).get? (s.heap.objs.size + 1) = some (seqObj "list" vs.toArray 0) := sz ▸ Heap.get?_push_size _ rfl
 have keep : ∀ b o, s.heap.get? b = some o -> (h1.push (seqObj "list" vs.toArray 0)).get? b = some o := fun b o q => by
  refine Heap.get?_push_of_some _ ?_
  show (Heap.update _ _ _).get? b = _
  rw [Heap.get?_update_ne _ _ _ _ (Nat.ne_of_lt (Heap.lt_size q))]
  exact Heap.get?_push_of_some _ q
 refine Calls.call_function_entry kind_sorted plain_sorted entry_sorted (args_sorted1 _) ?_
 unfold Builtin.«sorted»
 refine wpAny_bind (m := checkCount "sorted" 1 1 _) (wpAny_pure (wpAny_bind (zmU hl hz (wpAny_bind (wpAny_newList ?_ hz)))))
 show wpAny _ _ _ _ _ { s with heap := h1.push (seqObj "list" vs.toArray 0) }
 rw [show (Heap.update (s.heap.push (seqObj "list" #[] 0)) s.heap.objs.size (Obj.mapSeq (· ++ vs.toArray))).objs.size = s.heap.objs.size + 1 from sz]
 refine wpAny_bind (wpAny_holding (wpAny_call_entry slot_list_sort ⟨_, there, rfl⟩ entry_list_sort (zdT there hz (fun h2 s6 k => core h2 s6 fun b o q => k b o (Nat.ne_of_lt (Nat.lt_succ_of_lt (Heap.lt_size q))) (keep b o q)) short fun out g1 g2 => ⟨_, rfl, ?_⟩) (args_list_sort _)))
 exact wpAny_pure ⟨_, rfl, fin out g1 g2⟩
end
section
open L2 PySem.Spec
variable {X : Cx}
theorem zie : zcf X (.builtin "sorted") (fun xs H Q => ∃ p ys, ∃ rows : List (List Int), xs = [.ref p] /\ SqT X.K H p ys /\ Paired (fun v r => r ≠ [] /\ ∃ b, v = V.ref b /\ SqT X.K H b (r.map V.int)) ys rows /\ rows.length < 64 /\
  ∀ (l : Addr) (idx : List Nat), H l = none -> idx.Perm (List.range ys.length) -> (idx.map fun i => rows.getD i []).Pairwise (fun a b => HT.lexLt b a = false) -> Q (.ref l) (upd H l (.lst (idx.map fun i => ys.getD i .non)))) := by
 intro pins s σ H xs us Q I r h
 obtain ⟨p, ys, rows, rfl, hq, hr, h64, q⟩ := h
 obtain ⟨u, rfl, ru⟩ := vals1 r
 cases ru
 obtain ⟨its, rv, pl, hz⟩ := I.tuple hq
 have hl := rv.length
 have hlr : ys.length = rows.length := Paired.length hr
 have rows_at : ∀ h6 : Heap, (∀ b o, s.heap.get? b = some o -> h6.get? b = some o) -> ze1 h6 its rows := fun h6 k => by
  refine ST.Paired.mk (by omega) fun i a b ha hb => ?_
  have hi : i < ys.length := by have := (List.getElem?_eq_some_iff.mp hb).1; omega
  obtain ⟨hne, c, hc, hsq⟩ := L4.Paired.at' hr (i := i) hi V.non ([] : List Int)
  obtain ⟨u, e1, e2⟩ := rv.get (i := i) (x := ys.getD i V.non) (by simp [hi])
  rw [ha] at e1; cases e1
  rw [hc] at e2
  cases (show a = Value.ref c from e2)
  obtain ⟨its2, rv2, ⟨o, e, hcl, n, hd⟩, _⟩ := I.tuple hsq
  have eb : rows.getD i [] = b := by simp [hb]
  rw [eb] at hne rv2
  exact ⟨hne, c, o, _, n, rfl, k _ _ e, hcl, hd, by simpa using intsAre_of rv2⟩
 refine zjC (Out := zqS its rows) pl (by rw [<- hl]; exact hz) (fun h2 s6 k => zgc (rows_at _ k) h2 (by omega)) (fun h1 => ?_) fun out ho hs => ?_
 ·refine ⟨List.range its.length, .refl _, ?_, ?_⟩
  ·refine List.ext_getElem (by simp) fun i h1 h2 => ?_
   simp at h1
   simp [h1]
  ·rw [List.pairwise_map, List.pairwise_iff_getElem]
   intro i j hi hj hij
   simp at hi hj
   omega
 ·obtain ⟨idx, g1, g2, g3⟩ := ho
  obtain ⟨e, ho⟩ := sortedAll_at s.heap its out
  have g1' : idx.Perm (List.range ys.length) := by rw [hl]; exact g1
  refine ⟨.ref (s.heap.objs.size + 1), _, I.laid (t' := s.toks) (o := .lst (idx.map fun i => ys.getD i .non)) (fun b o q => sortedAll_old q) (Nat.le_succ _) ?_, rfl, q _ idx (I.hok.fresh (Nat.le_succ _)) g1' g3⟩
  refine ⟨by rw [List.length_map, g1'.length_eq, List.length_range]; exact hz, out.toList, e, ?_, by simpa using ho⟩
  rw [g2]
  refine ST.Paired.mk (by simp) fun j a b ha hb => ?_
  rw [List.getElem?_map] at ha hb
  obtain ⟨i, hi, rfl⟩ := Option.map_eq_some_iff.mp ha
  rw [hi] at hb
  cases hb
  have hil : i < ys.length := by simpa using g1'.mem_iff.mp (List.mem_of_getElem? hi)
  obtain ⟨u, e1, e2⟩ := rv.get (i := i) (x := ys.getD i V.non) (by simp [hil])
  have e3 : its.getD i Value.none = u := by simp [e1]
  show L2.RelV (ys.getD i V.non) (its.getD i Value.none)
  rw [e3]; exact e2
end
end L4
namespace L5
open PySem PySem.Spec L2 L3
open PyProof.Rows hiding St
section
variable {X : Cx} {K : PySem.W.Frag} {e : Expr} {es : List Expr} {tA : TDA} {pos p pos2 p2 : Pos}
def zfs : RDn := fun ds S Q => ∃ d, ∃ rows : List (List Int), ds = [d] /\ za7 d S = some (rows.map zht) /\ rows.length < 64 /\ (∀ r ∈ rows, r ≠ []) /\ ∀ l, S l = none -> Q (.ref l) (ups S l (.lst ((L4.zey rows).map zht)))
noncomputable def zkB : List T -> Option T
 | [y] => (zhF y).bind fun ts => (zgj ts).bind fun rs => if rs.length < 64 /\ ∀ r ∈ rs, r ≠ [] then some (.lst ((L4.zey rs).map zaV)) else none
 | _ => none
theorem zjZ : zhn RkF zkB zfs := fun S Z ys z ds Q hz hv e hq => by
 unfold zkB at e
 split at e
 ·obtain ⟨d, rfl, h1⟩ := zl1 hv
  obtain ⟨ts, e0, e⟩ := Option.bind_eq_some_iff.mp e
  obtain ⟨rs, e1, e2⟩ := Option.bind_eq_some_iff.mp e
  split at e2
  ·rename_i hc
   cases e2
   cases ze9 e1
   obtain ⟨es, h2, h3⟩ := h1.seq e0
   cases zd2.mp h3
   exact ⟨d, rs, rfl, h2, hc.1, hc.2, fun l hl => hq _ _ (.new hl _) (zdO hz hl (zd2.mpr rfl))⟩
  ·cases e2
 ·cases e
theorem zfs.mo : MoN zfs := fun ds S Q Q' hq ⟨d, rows, h0, h1, h2, h3, h4⟩ => ⟨d, rows, h0, h1, h2, h3, fun l hl => hq _ _ (h4 l hl)⟩
abbrev zni (K : PySem.W.Frag) (sq : Hp -> Addr -> List V -> Prop) : List V -> Hp -> VK -> Prop := fun xs H Q => ∃ p ys, ∃ rows : List (List Int), xs = [.ref p] /\ sq H p ys /\ Paired (fun v r => r ≠ [] /\ ∃ b, v = V.ref b /\ SqT K H b (r.map V.int)) ys rows /\ rows.length < 64 /\
  ∀ (l : Addr) (idx : List Nat), H l = none -> idx.Perm (List.range ys.length) -> (idx.map fun i => rows.getD i []).Pairwise (fun a b => HT.lexLt b a = false) -> Q (.ref l) (upd H l (.lst (idx.map fun i => ys.getD i .non)))
theorem zcf.or {f : Value} {r r' : List V -> Hp -> VK -> Prop} (h : zcf X f r) (h' : zcf X f r') : zcf X f (fun xs H Q => r xs H Q \/ r' xs H Q) := fun pins s σ H xs us Q I rv q =>
 q.elim (fun q => h pins s σ H xs us Q I rv q) fun q => h' pins s σ H xs us Q I rv q
theorem zfs.fits : zho K zfs (fun xs H Q => zni K (SqL K) xs H Q \/ zni K (SqT K) xs H Q) := fun xs ds H S Q h0 h2 h => by
 obtain ⟨d, rows, rfl, e, h64, hne, h⟩ := h
 obtain ⟨x, hx, h1⟩ := h0.one; subst hx
 obtain ⟨a, ys, rfl, g1, g2⟩ := za7.sq h1 h2 e
 have hl := g2.length
 rw [List.length_map] at hl
 have key : ∀ (l : Addr) (idx : List Nat), H l = none -> idx.Perm (List.range ys.length) -> (idx.map fun i => rows.getD i []).Pairwise (fun a b => HT.lexLt b a = false) -> Q (.ref l) (upd H l (.lst (idx.map fun i => ys.getD i .non))) := fun l idx hf hp hs => by
  rw [<- hl] at hp
  have heq := L4.zfo (zeW hp) hs
  have hx : Ext H (upd H l (.lst (idx.map fun i => ys.getD i .non))) := .new hf _
  refine h l (h2.none hf) _ _ (by simp only [zau]) hx (h2.ups hx ⟨_, zaA, ?_⟩)
  rw [<- heq]
  exact zak.ext hx _ (g2.perm fun i hi => by simpa using hp.mem_iff.mp hi)
 rcases g1 with g1 | g1
 ·exact .inl ⟨_, ys, rows, rfl, g1, zcJ g2 hne, h64, key⟩
 ·exact .inr ⟨_, ys, rows, rfl, g1, zcJ g2 hne, h64, key⟩
theorem zjQ (hm : X.mg "sorted" = none) (ha : PDA X (e :: es) tA) (hg : Gl X "sorted" := by rfl) (he : starEach (e :: es) X.env = (false, eval e X.env) :: starEach es X.env := by rfl) (hpl : (backTo pos (starEach es X.env)).any (·.1) = false := by rfl) : PD X (.Call (.Name "sorted" p) (e :: es) [] pos) (dCB zfs tA) :=
 zcL (zeF (zcf.or L4.zig L4.zie) hg hm boot_sorted ha.pa (by decide) (by decide) he hpl) zfs.mo zfs.fits ha.mo
end
end L5
namespace L2
open PySem PySem.Spec PyProof.Rows
section
variable {X : Cx}
def zdI (r : Addr) (j : Int) : Heap -> Prop := fun h => ∃ t u v, IsRange h r 0 j 1 t u v
theorem ziU : zcf X (.type "range") (fun xs H Q => ∃ j, xs = [.int j] /\ ∀ r, H r = none -> Q (.ref r) (upd H r (.ext (zdI r j)))) := by
 intro pins s σ H xs us Q I r h
 obtain ⟨j, rfl, q⟩ := h
 obtain ⟨u, rfl, ru⟩ := vals1 r
 obtain ⟨t, rfl⟩ := ru
 refine call_range_1 ⟨.ref s.heap.objs.size, _, I.laid (o := .ext (zdI s.heap.objs.size j)) (fun b o e => Heap.get?_push_of_some _ e) (Nat.le_refl _) ?_, rfl, q _ (I.hok.fresh (Nat.le_refl _))⟩
 have here : zdI s.heap.objs.size j (s.heap.push { cls := .type "range", data := .fields #[.int 0 s.toks, .int j t, .int 1 (s.toks + 1)] }) := ⟨_, _, _, IsRange.new ..⟩
 refine ⟨here, ⟨_, Heap.get?_push_size _ rfl⟩, fun h1 h2 S k => ?_⟩
 obtain ⟨a, b, c, e⟩ := S
 exact ⟨a, b, c, k _ e⟩
theorem zgp (hc : X.calm = true) : zcf X (.type "list") (fun xs H Q => ∃ r j, xs = [.ref r] /\ H r = some (.ext (zdI r j)) /\ 0 <= j /\ j <= 16777216 /\ ∀ l, H l = none -> Q (.ref l) (upd H l (.lst ((List.range j.toNat).map fun (k : Nat) => V.int (k : Int))))) := by
 intro pins s σ H xs us Q I r h
 obtain ⟨a, j, rfl, hr, h0, h1, q⟩ := h
 obtain ⟨u, rfl, ru⟩ := vals1 r
 cases ru
 obtain ⟨⟨t, u, v, hR⟩, -, -⟩ := (show zdk X.prog X.w H s.heap a (.ext (zdI a j)) from I.hok a _ hr)
 have hsz : Builtin.Range.rangeSize 0 j 1 = ((j.toNat : Nat) : Int) := by rw [rangeSize_one]; split <;> omega
 refine call_list_range (n := j.toNat) (I.ok.hd hc) hR (small_one (by decide) (by decide) (by omega) (by omega)) hsz (by omega) fun h' tk acc c k e hi => ?_
 refine ⟨.ref s.heap.objs.size, _, I.laid (o := .lst ((List.range j.toNat).map fun (k : Nat) => V.int (k : Int))) k (Nat.le_refl _) ⟨?_, acc.toList, c, ?_, by simpa using e⟩, rfl, q _ (I.hok.fresh (Nat.le_refl _))⟩
 ·have : sizeLine = 16777216 := rfl
  simp; omega
 ·obtain ⟨hn, hi⟩ := hi
  refine ST.Paired.mk (by simp [hn]) fun i a b ha hb => ?_
  rw [List.getElem?_map] at ha
  obtain ⟨k', hk, rfl⟩ := Option.map_eq_some_iff.mp ha
  obtain ⟨hk1, hk2⟩ := List.getElem?_eq_some_iff.mp hk
  simp at hk2
  subst hk2
  obtain ⟨w, hw⟩ := hi i b (by simpa using hb)
  subst hw
  exact ⟨w, by simp⟩
end
end L2
namespace L5
open PySem PySem.Spec L2 L3
open PyProof.Rows hiding St
section
variable {X : Cx} {K : PySem.W.Frag} {e : Expr} {tA : TDA} {pos p pos2 p2 : Pos}
def zdt : RDn := fun ds S Q => ∃ j : Int, ds = [.int j] /\ 0 <= j /\ j <= 16777216 /\ ∀ l, S l = none -> Q (.ref l) (ups S l (.lst (zc2 0 j.toNat)))
noncomputable def zf1 : List T -> Option T
 | [.int j] => if 0 <= j /\ j <= 16777216 then some (.lst (rangeT 0 j.toNat)) else none
 | _ => none
theorem ziO : zhn RkF zf1 zdt := fun S Z ys z ds Q hz hv e hq => by
 unfold zf1 at e
 split at e
 ·obtain ⟨d, rfl, h1⟩ := zl1 hv
  split at e
  ·rename_i hc
   cases e
   cases h1.int
   exact ⟨_, rfl, hc.1, hc.2, fun l hl => hq _ _ (.new hl _) (zdO hz hl (zfN _ _))⟩
  ·cases e
 ·cases e
theorem zdt.mo : MoN zdt := fun ds S Q Q' hq ⟨j, h0, h1, h2, h3⟩ => ⟨j, h0, h1, h2, fun l hl => hq _ _ (h3 l hl)⟩
theorem ziD {H : Hp} (n : Nat) : zak K H (zc2 0 n) ((List.range n).map fun (k : Nat) => V.int (k : Int)) := by
 unfold zc2
 induction List.range n with
 | nil => exact .nil
 | cons k l ih => exact .cons (by simp only [zau]; rw [Int.zero_add]) ih
theorem zdt.fits : zho K zdt (fun xs H Q => ∃ j, xs = [.int j] /\ ∀ r, H r = none -> ∃ r' j', [V.ref r] = [.ref r'] /\ (upd H r (.ext (zdI r j))) r' = some (.ext (zdI r' j')) /\ 0 <= j' /\ j' <= 16777216 /\
  ∀ l, (upd H r (.ext (zdI r j))) l = none -> Q (.ref l) (upd (upd H r (.ext (zdI r j))) l (.lst ((List.range j'.toNat).map fun (k : Nat) => V.int (k : Int))))) := fun xs ds H S Q h0 h2 h => by
 obtain ⟨j, rfl, c1, c2, h⟩ := h
 obtain ⟨x, hx, h1⟩ := h0.one; subst hx
 simp only [zau] at h1
 subst h1
 refine ⟨j, rfl, fun r hr => ⟨r, j, rfl, zaA, c1, c2, fun l hl => ?_⟩⟩
 have x1 : Ext H (upd H r (.ext (zdI r j))) := .new hr _
 have hlr : l ≠ r := fun z => by subst z; rw [zaA] at hl; cases hl
 have hlH : H l = none := by rw [zbo hlr] at hl; exact hl
 have x2 : Ext (upd H r (.ext (zdI r j))) (upd (upd H r (.ext (zdI r j))) l (.lst ((List.range j.toNat).map fun (k : Nat) => V.int (k : Int)))) := .new hl _
 exact h l (h2.none hlH) _ _ (by simp only [zau]) (x1.trans x2) ((h2.new hr).ups x2 ⟨_, zaA, ziD _⟩)
theorem zkZ (hm : X.mg "list" = none) (hm2 : X.mg "range" = none) (ha : PDA X [e] tA) (hc : X.calm = true := by rfl) (hg : Gl X "list" := by rfl) (hg2 : Gl X "range" := by rfl)
  (he2 : starEach [e] X.env = (false, eval e X.env) :: starEach [] X.env := by rfl)
  (he : starEach [.Call (.Name "range" p2) [e] [] pos2] X.env = (false, eval (.Call (.Name "range" p2) [e] [] pos2) X.env) :: starEach [] X.env := by rfl) (hpl : (backTo pos (starEach [] X.env)).any (·.1) = false := by rfl) (hpl2 : (backTo pos2 (starEach [] X.env)).any (·.1) = false := by rfl) :
  PD X (.Call (.Name "list" p) [.Call (.Name "range" p2) [e] [] pos2] [] pos) (dCB zdt tA) := by
 have h := zdP (p := p) (zgp hc) hg hm PyProof.Rows.boot_list (zfc (zdP ziU hg2 hm2 boot_range ha.pa (by decide) (by decide) he2 hpl2) zhR he) (by decide) (by decide) he hpl
 exact ⟨dCB.mo zdt.mo ha.mo, PE.imp h fun _ _ _ hu => zrW zdt.mo zdt.fits ha.mo hu⟩
end
end L5
namespace ST
open PySem PySem.SetTable PySem.Spec PyProof.Rows L2
theorem zmJ {us us' : List Value} (p : us'.Perm us) : ∀ {ms : List Int}, IntsAre us ms -> ∃ ms', IntsAre us' ms' /\ ms'.Perm ms := by
 induction p with
 | nil => intro ms h; exact ⟨ms, h, .refl _⟩
 | cons x _ ih =>
  intro ms h
  cases h with
  | cons n t h =>
   obtain ⟨ms', h1, h2⟩ := ih h
   exact ⟨n :: ms', .cons n t h1, h2.cons n⟩
 | swap x y l =>
  intro ms h
  cases h with
  | cons n t h =>
   cases h with
   | cons m u h => exact ⟨m :: n :: _, .cons m u (.cons n t h), .swap _ _ _⟩
 | trans _ _ ih1 ih2 =>
  intro ms h
  obtain ⟨m1, h1, h2⟩ := ih2 h
  obtain ⟨m2, h3, h4⟩ := ih1 h1
  exact ⟨m2, h3, h4.trans h2⟩
theorem zkf.at {prog : Program} {w : World} {h : Heap} {a : Addr} {xs : List (Int × Tok)} (S : zkf prog w h a xs (zfh w)) : zet w a (xs.map fun e => Value.int e.1 e.2) h := by
 obtain ⟨⟨es, ep, t, ho, he, T, h1, h2, h3⟩, _⟩ := S
 have hm : 7 <= t.mask /\ t.mask <= 127 := by rcases T.mask with e | e | e <;> omega
 have hlen : es.size = xs.length := by have := congrArg List.length he; simpa using this
 exact ⟨es, ep, t, ⟨ho, fits_of (n := xs.length) hlen T (by simp) (by omega), T.ris, h1, h2⟩, by rw [he, List.map_map]; rfl⟩
theorem zf5 : ∀ xs : List (Int × Tok), IntsAre (xs.map fun e => Value.int e.1 e.2) (xs.map (·.1))
 | [] => .nil
 | e :: xs => .cons e.1 e.2 (zf5 xs)
theorem zks : ∀ {us : List Value} {ns : List Int}, IntsAre us ns -> Vals (ns.map V.int) us
 | _, _, .nil => .nil
 | _, _, .cons n t h => .cons ⟨t, rfl⟩ (zks h)
section
variable {X : Cx}
theorem zka (hc : X.calm = true) : zcf X (.type "set") (fun xs H Q => ∃ p, ∃ ns : List Int, xs = [.ref p] /\ SqL X.K H p (ns.map V.int) /\ ns.length < 64 /\
  ∀ (l : Addr) (us : List Value) (ms : List Int), H l = none -> IntsAre us ms -> ms.Nodup -> (∀ n, n ∈ ms ↔ n ∈ ns) -> Q (.ref l) (upd H l (.ext (zet X.w l us)))) := by
 intro pins s σ H xs us Q I r h
 obtain ⟨p, ns, rfl, hq, h64, q⟩ := h
 obtain ⟨u, rfl, ru⟩ := vals1 r
 cases ru
 obtain ⟨its, rv, pl, hz⟩ := I.list hq
 have hl := rv.length
 rw [List.length_map] at hl
 have iA : IntsAre its ns := intsAre_of rv
 have nums : Nums its.toArray ns := fun i v hv => by
  have hv' : its[i]? = some v := by simpa using hv
  have hi : i < ns.length := by rw [hl]; exact (List.getElem?_eq_some_iff.mp hv').1
  obtain ⟨u, e1, t, e2⟩ := rv.get (i := i) (x := V.int ns[i]) (by simp [hi])
  rw [hv'] at e1; cases e1
  exact ⟨ns[i], t, e2, by simp [hi]⟩
 have hh : X.A.handled = none := I.ok.hd hc
 refine zlK (A := X.A) hh pl.isList nums (by rw [List.size_toArray]; omega) fun h' tk xs S U k => ?_
 have kk : ∀ b o, s.heap.get? b = some o -> h'.get? b = some o := fun b o e => k b o (Heap.lt_size e) e
 have hSO := S.at
 refine ⟨.ref s.heap.objs.size, _, I.laid (t' := tk) (o := .ext (zet X.w s.heap.objs.size (xs.map fun e => Value.int e.1 e.2))) kk (Nat.le_refl _) ?_, rfl, q _ _ (xs.map (·.1)) (I.hok.fresh (Nat.le_refl _)) (zf5 xs) S.nd fun n => ⟨fun hn => ?_, fun hn => ?_⟩⟩
 ·obtain ⟨es, ep, t, St, e⟩ := id hSO
  exact ⟨hSO, ⟨_, St.get⟩, fun h1 h2 S1 k => S1.zmb k⟩
 ·obtain ⟨e, he, rfl⟩ := List.mem_map.mp hn
  obtain ⟨j, _, hj⟩ := U.own e he
  exact List.mem_of_getElem? hj
 ·obtain ⟨j, hj⟩ := List.mem_iff_getElem?.mp hn
  exact U.all j n (by have := (List.getElem?_eq_some_iff.mp hj).1; rw [List.size_toArray]; omega) hj
theorem zhj (hc : X.calm = true) : zcf X (.builtin "sorted") (fun xs H Q => ∃ l us, ∃ ms : List Int, xs = [.ref l] /\ H l = some (.ext (zet X.w l us)) /\ IntsAre us ms /\ ms.length < 64 /\
  ∀ (p : Addr) (ns : List Int), H p = none -> ns.Perm ms -> ns.Pairwise (· <= ·) -> Q (.ref p) (upd H p (.lst (ns.map V.int)))) := by
 intro pins s σ H xs us0 Q I r h
 obtain ⟨l, us, ms, rfl, hl, hm, h64, q⟩ := h
 obtain ⟨u, rfl, ru⟩ := vals1 r
 cases ru
 obtain ⟨⟨es, ep, t, S, eu⟩, -, -⟩ := (show zdk X.prog X.w H s.heap l (.ext (zet X.w l us)) from I.hok l _ hl)
 have hlen : es.size = us.length := by rw [<- eu]; simp
 have hml := hm.length
 have hh : X.A.handled = none := I.ok.hd hc
 have hp : ((comes X.w l es ep).toList.map (·.2)).Perm us := by rw [<- eu]; exact (zcH X.w l es ep).map _
 obtain ⟨ms', i1, i2⟩ := zmJ hp hm
 have hcl := hp.length_eq
 have hl24 : sizeLine = 16777216 := rfl
 refine zgv (Out := fun out => ∃ ns', IntsAre out.toList ns' /\ ns'.Perm ms' /\ ns'.Pairwise (· <= ·)) hh S (by rw [hlen, hml]; omega) (fun s6 h2 k => L4.zlH i1 (by rw [hcl, <- hlen]; exact h2) (by rw [hcl, hml]; exact h64)) (fun h1 => ⟨ms', by simpa using i1, .refl _, ?_⟩) fun out h' tk p ho hs hp' k hat => ?_
 ·have : ms'.length < 2 := by rw [<- i1.length, hcl, <- hlen]; exact h1
  match ms', this with
  | [], _ => exact .nil
  | [_], _ => exact List.pairwise_singleton _ _
 ·obtain ⟨ns, g1, g2, g3⟩ := ho
  obtain ⟨e, he⟩ := hat
  refine ⟨.ref p, _, I.laid (t' := tk) (o := .lst (ns.map V.int)) k hp' ?_, rfl, q p ns (I.hok.fresh hp') (g2.trans i2) g3⟩
  exact ⟨by rw [List.length_map, g2.length_eq, i2.length_eq]; omega, out.toList, e, zks g1, by simpa using he⟩
end
end ST
namespace L5
open PySem PySem.Spec L2 L3
open PyProof.Rows hiding St
noncomputable def insI (n : Int) : List Int -> List Int
 | [] => [n]
 | m :: l => if n < m then n :: m :: l else if n = m then m :: l else m :: insI n l
noncomputable def upI : List Int -> List Int
 | [] => []
 | n :: ns => insI n (upI ns)
theorem zg7 {n k : Int} : ∀ {l : List Int}, k ∈ insI n l ↔ k = n \/ k ∈ l
 | [] => by simp [insI]
 | m :: l => by
  unfold insI
  split
  ·simp
  ·split
   ·rename_i h; subst h; simp
   ·rw [List.mem_cons, zg7, List.mem_cons]
    constructor
    ·rintro (h | h | h)
     ·exact .inr (.inl h)
     ·exact .inl h
     ·exact .inr (.inr h)
    ·rintro (h | h | h)
     ·exact .inr (.inl h)
     ·exact .inl h
     ·exact .inr (.inr h)
theorem zg6 {k : Int} : ∀ {l : List Int}, k ∈ upI l ↔ k ∈ l
 | [] => .rfl
 | n :: l => by unfold upI; rw [zg7, zg6, List.mem_cons]
theorem zlr {n : Int} : ∀ {l : List Int}, l.Pairwise (· < ·) -> (insI n l).Pairwise (· < ·)
 | [], _ => List.pairwise_singleton _ _
 | m :: l, h => by
  have h' := List.pairwise_cons.mp h
  unfold insI
  split
  ·rename_i c
   refine List.pairwise_cons.mpr ⟨fun x hx => ?_, h⟩
   rcases List.mem_cons.mp hx with e | e
   ·rw [e]; exact c
   ·exact Int.lt_trans c (h'.1 x e)
  ·split
   ·exact h
   ·rename_i c1 c2
    refine List.pairwise_cons.mpr ⟨fun x hx => ?_, zlr h'.2⟩
    rcases zg7.mp hx with e | e
    ·rw [e]; omega
    ·exact h'.1 x e
theorem zi2 : ∀ l : List Int, (upI l).Pairwise (· < ·)
 | [] => .nil
 | n :: l => zlr (zi2 l)
theorem zhx {l m : List Int} (h1 : l.Nodup) (h2 : l.Pairwise (· <= ·)) (h3 : m.Pairwise (· < ·)) (h : ∀ k, k ∈ l ↔ k ∈ m) : l = m := by
 have nm : m.Nodup := h3.imp fun h e => by omega
 refine L4.ziF (r := fun a b : Int => a <= b) (fun a b p q => by omega) ((List.perm_ext_iff_of_nodup h1 nm).mpr h) h2 (h3.imp fun h => by omega)
section
variable {X : Cx} {K : PySem.W.Frag} {e : Expr} {tA : TDA} {pos pos2 p p2 : Pos}
def zdV : RDn := fun ds S Q => zb1 ds S Q \/ ∃ d, ∃ ns : List Int, ds = [d] /\ (∀ ts, d ≠ .tup ts) /\ za7 d S = some (ns.map D.int) /\ ns.length < 64 /\ ∀ l, S l = none -> Q (.ref l) (ups S l (.lst ((upI ns).map D.int)))
noncomputable def zdn : List T -> Option T
 | [.lst ts] => match zfB ts with
  | some ns => if ns.length < 64 then some (.lst ((upI ns).map T.int)) else none
  | none => zfG [.lst ts]
 | _ => none
theorem zeY : zhn RkF zdn zdV := fun S Z ys z ds Q hz hv e hq => by
 unfold zdn at e
 split at e
 ·split at e
  ·rename_i ns hns
   split at e
   ·rename_i hc
    cases e
    cases zdj hns
    obtain ⟨d, rfl, h1⟩ := zl1 hv
    obtain ⟨es, h2, h3⟩ := h1.seq rfl
    cases zcw.mp h3
    refine .inr ⟨d, ns, rfl, ?_, h2, hc, fun l hl => hq _ _ (.new hl _) (zdO hz hl (zcw.mpr rfl))⟩
    obtain ⟨_, q | ⟨a, q, _⟩, _⟩ := h1.lst <;> subst q <;> exact fun _ => nofun
   ·cases e
  ·exact .inl (zh8 S Z _ z ds Q hz hv e hq)
 ·cases e
theorem zdV.mo : MoN zdV := fun ds S Q Q' hq h => by
 rcases h with h | ⟨d, ns, h1, h2, h3, h4, h5⟩
 ·exact .inl (zb1.mo ds S Q Q' hq h)
 ·exact .inr ⟨d, ns, h1, h2, h3, h4, fun l hl => hq _ _ (h5 l hl)⟩
theorem zrG {w : World} {xs : List V} {H : Hp} {S : SS} {Q : VK} {d : D} {ns : List Int} (h0 : zak K H [d] xs) (h2 : zbV K H S) (hn : ∀ ts, d ≠ .tup ts) (e : za7 d S = some (ns.map D.int)) (h64 : ns.length < 64) (h : ∀ l, S l = none -> dnK K H Q (.ref l) (ups S l (.lst ((upI ns).map D.int)))) :
  ∃ p, ∃ ns' : List Int, xs = [.ref p] /\ SqL K H p (ns'.map V.int) /\ ns'.length < 64 /\
   ∀ (l : Addr) (us : List Value) (ms : List Int), H l = none -> IntsAre us ms -> ms.Nodup -> (∀ n, n ∈ ms ↔ n ∈ ns') ->
    ∃ l' us', ∃ ms' : List Int, [V.ref l] = [.ref l'] /\ (upd H l (.ext (ST.zet w l us))) l' = some (.ext (ST.zet w l' us')) /\ IntsAre us' ms' /\ ms'.length < 64 /\
     ∀ (p : Addr) (ns : List Int), (upd H l (.ext (ST.zet w l us))) p = none -> ns.Perm ms' -> ns.Pairwise (· <= ·) -> Q (.ref p) (upd (upd H l (.ext (ST.zet w l us))) p (.lst (ns.map V.int))) := by
 obtain ⟨x, hx, h1⟩ := h0.one; subst hx
 obtain ⟨a, ys, rfl, g1, g2⟩ := zej h1 h2 e hn
 rw [g2.ints] at g1
 refine ⟨a, ns, rfl, g1, h64, fun l us ms hf hi nd hmem => ⟨l, us, ms, rfl, zaA, hi, ?_, fun p ns2 hp pm srt => ?_⟩⟩
 ·have := ST.zfY ms ns nd fun x hx => (hmem x).mp hx
  omega
 ·have x1 : Ext H (upd H l (.ext (ST.zet w l us))) := .new hf _
  have hpl : p ≠ l := fun z => by subst z; rw [zaA] at hp; cases hp
  have hpH : H p = none := by rw [zbo hpl] at hp; exact hp
  have x2 : Ext (upd H l (.ext (ST.zet w l us))) (upd (upd H l (.ext (ST.zet w l us))) p (.lst (ns2.map V.int))) := .new hp _
  have heq : ns2 = upI ns := zhx (pm.nodup_iff.mpr nd) srt (zi2 ns) fun k => by rw [pm.mem_iff, hmem, zg6]
  refine h p (h2.none hpH) _ _ (by simp only [zau]) (x1.trans x2) ((h2.new hf).ups x2 ⟨_, zaA, ?_⟩)
  rw [<- heq]
  exact zak.ziM ns2
theorem zfU {k : Nat} (hr : ze2 k X.A) (hm : X.mg "sorted" = none) (hm2 : X.mg "set" = none) (ha : PDA X [e] tA) (hc : X.calm = true := by rfl) (hg : Gl X "sorted" := by rfl) (hg2 : Gl X "set" := by rfl)
  (he2 : starEach [e] X.env = (false, eval e X.env) :: starEach [] X.env := by rfl)
  (he : starEach [.Call (.Name "set" p2) [e] [] pos2] X.env = (false, eval (.Call (.Name "set" p2) [e] [] pos2) X.env) :: starEach [] X.env := by rfl) (hpl : (backTo pos (starEach [] X.env)).any (·.1) = false := by rfl) (hpl2 : (backTo pos2 (starEach [] X.env)).any (·.1) = false := by rfl) :
  PD X (.Call (.Name "sorted" p) [.Call (.Name "set" p2) [e] [] pos2] [] pos) (dCB zdV tA) := by
 have h := zeF (p := p) (zcf.or (ST.zif hc) (ST.zhj hc)) hg hm boot_sorted (zfc (zdP (zcf.or (ST.zlJ hc hr.units) (ST.zka hc)) hg2 hm2 PyProof.Rows.boot_set ha.pa (by decide) (by decide) he2 hpl2) zhR he) (by decide) (by decide) he hpl
 refine ⟨dCB.mo zdV.mo ha.mo, PE.imp h fun σ H Q hu => ?_⟩
 obtain ⟨δ, S, r1, r2, z⟩ := hu
 refine upA.go ha.mo r1 r2 z fun ds S1 xs H1 h1 q1 e1 p1 => ?_
 rcases h1 with h1 | ⟨d, ns, rfl, c1, c2, c3, h1⟩
 ·obtain ⟨p, ys, rows, a1, a2, a3, a4, a5⟩ := zb1.fits (w := X.w) xs ds H1 S1 Q q1 p1 (zb1.mo ds S1 _ _ (fun d S' z => z.ext e1) h1)
  exact .inl ⟨p, ys, rows, a1, a2, a3, a4, fun l us vs rs b1 b2 b3 => .inl (a5 l us vs rs b1 b2 b3)⟩
 ·obtain ⟨p, ns', a1, a2, a3, a4⟩ := zrG (w := X.w) q1 p1 c1 c2 c3 (fun l hl => (h1 l hl).ext e1)
  exact .inr ⟨p, ns', a1, a2, a3, fun l us ms b1 b2 b3 b4 => .inr (a4 l us ms b1 b2 b3 b4)⟩
end
end L5
namespace HT
open PySem PyProof.Rows
theorem zmn (xs : Array Value) : ((List.range xs.size).filterMap fun (k : Nat) => xs[(((xs.size : Nat) : Int) - 1 + (k : Int) * (-1)).toNat]?).toArray = xs.toList.reverse.toArray := by
 congr 1
 have e : (List.range xs.size).filterMap (fun (k : Nat) => xs[(((xs.size : Nat) : Int) - 1 + (k : Int) * (-1)).toNat]?) = (List.range xs.size).filterMap fun (k : Nat) => some (xs.toList.reverse.getD k .none) := by
  have hc : ∀ (l : List Nat) (f g : Nat -> Option Value), (∀ k ∈ l, f k = g k) -> l.filterMap f = l.filterMap g := fun l f g h => by
   induction l with
   | nil => rfl
   | cons a l ih => rw [List.filterMap_cons, List.filterMap_cons, h a List.mem_cons_self, ih fun k hk => h k (List.mem_cons_of_mem _ hk)]
  refine hc _ _ _ fun k hk => ?_
  have hk' : k < xs.size := by simpa using hk
  have e1 : (((xs.size : Nat) : Int) - 1 + (k : Int) * (-1)).toNat = xs.size - 1 - k := by omega
  rw [e1, Array.getElem?_eq_getElem (by omega)]
  have : k < xs.toList.reverse.length := by simpa using hk'
  rw [List.getD_eq_getElem?_getD, List.getElem?_eq_getElem this]
  simp
 rw [e, List.filterMap_eq_map']
 refine List.ext_getElem (by simp) fun i h1 h2 => ?_
 simp at h1 ⊢
 simp [h1]
section
variable {prog : Program} {w : World} {A : Around} {E : Value -> Shared -> Prop} {s : Shared}
theorem zjL (n : Nat) : Builtin.Slice.slicePlaces ((n : Int) - 1) (-1) (-1) = n := by
 unfold Builtin.Slice.slicePlaces
 have h1 : ¬ ((-1 : Int) > 0) := by omega
 simp only [h1, if_false]
 by_cases h : (n : Int) - 1 > -1
 ·simp only [h, if_true]
  have : ((n : Int) - 1 - -1 - 1) / (- -1) + 1 = n := by
   rw [Int.neg_neg, Int.ediv_one]; omega
  rw [this]; simp
 ·simp only [h, if_false]; omega
theorem ziY {sl : Addr} {t : Tok} {n : Nat} {Q : Int × Int × Nat -> Shared -> Prop} (hs : s.heap.IsSliceOf sl .none .none (.int (-1) t)) (h : Q ((n : Int) - 1, -1, n) s) : wpAny (model prog w) A (Builtin.Slice.sliceApplied (.ref sl) (pure (n : Int))) Q E s := by
 obtain ⟨os, hos, hcs, hds⟩ := id hs
 unfold Builtin.Slice.sliceApplied Builtin.Slice.sliceFields
 refine wpAny_bind (wpAny_bind (wpAny_field hos hds (x := .none) rfl (wpAny_bind (wpAny_field hos hds (x := .none) rfl (wpAny_bind (wpAny_field hos hds (x := .int (-1) t) rfl (wpAny_pure ?_)))))))
 refine wpAny_bind (slicePart_int ?_)
 show wpAny _ _ (if ((-1 : Int) == 0) = true then _ else _) _ _ s
 rw [if_neg (by decide)]
 refine wpAny_bind (slicePart_none (wpAny_bind (slicePart_none (wpAny_bind (wpAny_pure ?_)))))
 show wpAny _ _ (pure ((n : Int) - 1, (-1 : Int), Builtin.Slice.slicePlaces ((n : Int) - 1) (-1) (-1))) _ _ s
 rw [zjL]
 exact wpAny_pure h
theorem turned {t sl : Addr} {items : Array Value} {tk : Tok} {Q : Value -> Shared -> Prop} (ht : IsTup s.heap t items) (hs : s.heap.IsSliceOf sl .none .none (.int (-1) tk)) (hz : items.size <= sizeLine)
  (h : Q (.ref s.heap.objs.size) { s with heap := s.heap.push { cls := .type "tuple", data := .seq items.toList.reverse.toArray } }) : wpAny (model prog w) A (getItem (.ref t) (.ref sl)) Q E s := by
 have hT := ht.typeIs
 obtain ⟨os, e1, e2, e3⟩ := id hs
 have hS : s.TypeIs (.ref sl) "slice" := ⟨os, e1, e2⟩
 have okz : sizeOk (.seq items.toList.reverse.toArray) := by
  show items.toList.reverse.toArray.size <= sizeLine
  simpa using hz
 unfold getItem
 try with_reducible refine wpAny_holding ?_
 first | refine wpAny_bind (wpAny_pure ?_) | skip
 refine wpAny_bind (wpAny_sequenceKey hT (by decide) (wpAny_bind (wpAny_callSpecial?_slot (name := Str.ofString "__getitem__") hT PyProof.Rows.slot_tuple_getitem (wpAny_call_entry PyProof.Rows.slot_tuple_getitem hT entry_tuple_getitem ?_ (args_tuple_getitem _ _)))))
 refine wpAny_bind (m := Builtin.Tuple.tupleItemsOf (.ref t)) (tupleItemsOf_ ht (wpAny_bind (wpAny_typeOf hS ?_)))
 rw [if_pos (by decide)]
 refine wpAny_bind (ziY (n := items.size) hs ?_)
 have no : ¬ ((((items.size : Nat) : Int) - 1 == 0 && (-1 : Int) == 1 && items.size == items.size) = true) := by simp
 show wpAny _ _ (if (((items.size : Nat) : Int) - 1 == 0 && (-1 : Int) == 1 && items.size == items.size) = true then _ else _) _ _ s
 rw [if_neg no, zmn]
 first
  | exact wpAny_bind (m := Builtin.Tuple.tupleExact _) (wpAny_newObj_type (wpAny_pure ⟨_, rfl, wpAny_pure h⟩) okz)
  | exact wpAny_bind (m := Builtin.Tuple.tupleExact _) (wpAny_newObj_type (wpAny_bind (wpAny_pure (wpAny_pure ⟨_, rfl, wpAny_pure h⟩))) okz)
  | exact wpAny_bind (wpAny_bind (m := Builtin.Tuple.tupleExact _) (wpAny_newObj_type (wpAny_pure (wpAny_pure ⟨_, rfl, wpAny_pure h⟩)) okz))
  | exact wpAny_bind (wpAny_bind (m := Builtin.Tuple.tupleExact _) (wpAny_newObj_type (wpAny_pure ⟨_, rfl, wpAny_pure h⟩) okz))
end
end HT
namespace L2
open PySem PySem.Spec PyProof.Rows
section
variable {X : Cx} {e st : Expr} {te : TE} {pos p2 : Pos}
def zst (K : PySem.W.Frag) (te : TE) : TE := fun σ H Q => te σ H fun x H1 => ∃ a xs, x = .ref a /\ SqT K H1 a xs /\ ∀ p, H1 p = none -> Q (.ref p) (upd H1 p (.tup xs.reverse))
theorem zpO (he : PE X e te) (hst : PE X st (tC (.int (-1)))) : PE X (.Subscript e (.Slice none none (some st) p2) pos) (zst X.K te) := by
 intro pins s σ H Q I h
 refine Subscript_ (thn (he pins s σ H _ I h) fun v s1 ⟨x, H1, I1, r1, a, xs, hx, hq, q⟩ => ?_)
 subst hx
 cases r1
 refine wpAny_Slice ?_
 rw [evalPart_none]
 refine wpAny_pure ?_
 rw [evalPart_some]
 refine wpAny_pure ?_
 refine thn (hst pins s1 σ H1 (fun v H' => v = .int (-1) /\ H' = H1) I1 ⟨rfl, rfl⟩) fun u s2 ⟨y, H2, I2, r2, hy, hH⟩ => ?_
 subst hy hH
 obtain ⟨tk, rfl⟩ := r2
 have I4 : Inv X pins σ H2 { s2 with heap := s2.heap.push { cls := .type "slice", data := .fields #[.none, .none, .int (-1) tk] } } := I2.kept (t' := s2.toks) fun b ob q => Heap.get?_push_of_some _ q
 obtain ⟨its, r, ht, hz⟩ := I4.tuple hq
 show wpAny (model X.prog X.w) X.A (subscriptTail e (.Slice none none (some st) p2) (.ref a) (.ref s2.heap.objs.size)) (EP X pins σ Q) X.xe { s2 with heap := s2.heap.push { cls := .type "slice", data := .fields #[.none, .none, .int (-1) tk] } }
 refine tail_any (ops := [.ref a, .ref s2.heap.objs.size]) ht.typeIs PyProof.Rows.slot_tuple_getitem.lookup ?_ (by with_unfolding_all rfl)
 refine HT.turned ht (Heap.IsSliceOf.new ..) (by rw [List.size_toArray, <- r.length]; exact hz) ?_
 exact ⟨.ref _, _, I4.laid (t' := s2.toks) (o := .tup xs.reverse) (fun b ob q => Heap.get?_push_of_some _ q) (Nat.le_refl _) ⟨by rw [List.length_reverse]; exact hz, _, r.reverse, IsTup.new _ its.reverse.toArray⟩, rfl, q _ (I4.hok.fresh (Nat.le_refl _))⟩
end
end L2
namespace L5
open PySem PySem.Spec L2 L3
open PyProof.Rows hiding St
section
variable {X : Cx} {K : PySem.W.Frag} {e st : Expr} {te : TDE} {pos p2 p3 p4 : Pos}
def zsf (te : TDE) : TDE := fun δ S Q => te δ S fun x S1 => match x with
 | .tup ds => Q (.tup ds.reverse) S1
 | _ => False
theorem zak.rev {H : Hp} : ∀ {ds : List D} {xs : List V}, zak K H ds xs -> zak K H ds.reverse xs.reverse
 | [], xs, h => by simp only [zak] at h; subst h; exact .nil
 | d :: ds, xs, h => by
  simp only [zak] at h
  obtain ⟨y, ys, rfl, h1, h2⟩ := h
  rw [List.reverse_cons, List.reverse_cons]
  exact (zak.rev h2).append (.cons h1 .nil)
theorem zrl {j : Nat} : PE X (.UnaryOp .USub (.Constant (.int 1) j p3) p4) (tC (.int (-1))) := by
 intro pins s σ H Q I h
 exact zpL znb znl pins s σ H Q I ⟨1, rfl, h⟩
theorem zpX {j : Nat} (he : PD X e te) : PD X (.Subscript e (.Slice none none (some (.UnaryOp .USub (.Constant (.int 1) j p3) p4)) p2) pos) (zsf te) := by
 refine ⟨fun δ S Q Q' hq z => he.mo δ S _ _ (fun x S1 z => by cases x <;> first | exact hq _ _ z | exact z) z, PE.imp (zpO he.pe zrl) fun σ H Q hu => ?_⟩
 obtain ⟨δ, S, r1, r2, z⟩ := hu
 refine upE.go he.mo r1 r2 z fun x S1 v H1 h1 q1 e1 p1 => ?_
 cases x with
 | tup ds =>
  simp only [zau] at q1
  obtain ⟨a, xs, rfl, g1, g2⟩ := q1
  refine ⟨a, xs, rfl, g1, fun p hp => h1 _ _ ?_ (e1.trans (.new hp _)) (p1.new hp)⟩
  simp only [zau]
  exact ⟨p, _, rfl, SqT.of zaA, zak.ext (.new hp _) _ (zak.rev g2)⟩
 | non => exact h1.elim
 | bl _ => exact h1.elim
 | int _ => exact h1.elim
 | str _ => exact h1.elim
 | rol _ => exact h1.elim
 | ref _ => exact h1.elim
@[simp] noncomputable def zr1 (f : Ev -> Option T) : Ev -> Option T := fun ρ => (f ρ).bind fun x => match x with
 | .tup ts => some (.tup ts.reverse)
 | _ => none
theorem Sns.rev {S : SS} : ∀ {ts : List T} {ds : List D}, Sns S ts ds -> Sns S ts.reverse ds.reverse
 | [], ds, h => by simp only [Sns] at h; subst h; exact .nil
 | t :: ts, ds, h => by
  simp only [Sns] at h
  obtain ⟨c, cs, rfl, h1, h2⟩ := h
  rw [List.reverse_cons, List.reverse_cons]
  exact (Sns.rev h2).append (Sns.cons h1 Sns.nil)
theorem zqg {f : Ev -> Option T} (h : OkR f te) : OkF (zr1 f) (zsf te) := fun S Z δ ρ y Q hE e hq => by
 obtain ⟨x, e1, e2⟩ := Option.bind_eq_some_iff.mp e
 refine h S Z δ ρ x _ hE e1 fun d S1 s1 r1 => ?_
 split at e2
 ·cases e2
  obtain ⟨ds, rfl, h2⟩ := Vw.tup r1
  exact hq _ S1 s1 (Cl.of (fun _ => nofun) (zfO (Sns.rev h2)))
 ·cases e2
end
end L5
namespace L5
open PySem L2 L3
theorem zhe : Good2 RkF leI fLe := zf7 (fun _ _ _ => zei) fun _ _ _ => nofun
end L5
namespace L5
open PySem PySem.Spec L2 L3
open PyProof.Rows hiding St
section
variable {X : Cx} {e : Expr} {te : TDE} {pos p q : Pos}
theorem zeL (T : Bt X.mg) (he : PD X e te) (hg : Gl X "isinstance" := by rfl) (hg2 : Gl X "str" := by rfl) (h1 : starEach (e :: [.Name "str" q]) X.env = (false, eval e X.env) :: starEach [.Name "str" q] X.env := by rfl) (h2 : (backTo pos (starEach [.Name "str" q] X.env)).any (·.1) = false := by rfl) (h3 : starEach [.Name "str" q] X.env = (false, eval (.Name "str" q) X.env) :: starEach [] X.env := by rfl) :
  PD X (.Call (.Name "isinstance" p) [e, .Name "str" q] [] pos) (zj5 "str" te) := zgW (by simp) T.isinstance T.str PyProof.Rows.boot_str hg2 (by decide) (by decide) he hg h1 h2 h3
end
end L5
namespace K01
open PySem L2 L3 L5
noncomputable def zgH : Sm :=
 (retS (zgr (instS "int" (vrS 0)) (zrw (instS "bool" (vrS 0)))))
noncomputable def zdm : List T -> Option T := zef ["thing"] 1 zgH
noncomputable def zb3 : Ev -> Option T :=
 lcS [none, none] (itA zo5 (zac (vrS 0) (zac (zng (vrS 0) (some (cS (.int 1))) none) zaq))) (tpG 2 (zgo (nmG 0) (zgo (nmG 1) zqo))) zed (opS ltS (vrS 0) (vrS 1))
noncomputable def zdZ : Sm :=
 (retS (cbS (bsS fun bs => bs.all id) (zac zb3 zaq)))
noncomputable def zbj : List T -> Option T := zef ["things"] 1 zdZ
noncomputable def zkj : Sm :=
 (retS (zgr (instS "str" (vrS 0)) (opS (inS false) (vrS 0) (tupS (zac (cS (.str "keeper")) (zac (cS (.str "taker")) zaq))))))
noncomputable def zeb : List T -> Option T := zef ["thing"] 1 zkj
noncomputable def zi0 : Sm :=
 (zbn (zdH 2 (cS (.int 0)))
 (zbn (ifS (zfx (opS ltS (vrS 1) (cbS zdK (zac (vrS 0) zaq)))) (zdH 2 (opS zcX (opS ixS (vrS 0) (vrS 1)) (opS zpE (cS (.int 2)) (cS (.int 64))))) zbG)
 (retS (opS zbT (opS zcX (opS zc8 (opS zc8 (opS zd6 (vrS 2) (cS (.int 46337))) (opS zd6 (opS zd6 (cS (.int 2741)) (vrS 1)) (vrS 1))) (opS zd6 (cS (.int 59)) (vrS 1))) (cS (.int 2147483629))) (cS (.int 2))))))
noncomputable def zaS : List T -> Option T := zef ["_law_script", "_law_k", "_law_cell"] 2 zi0
noncomputable def zcz : Sm :=
 (zbn (ifS (zlB (zfx (opS (eqS false) (opS ixS (vrS 1) (vrS 3)) (cS (.str "keeper")))) (zfx (opS (eqS false) (opS zcX (vrS 0) (cS (.int 2))) (cS (.int 1))))) (zkl 2 (tupS (zac (zaI 3) (zac (opS zcX (opS zbT (vrS 0) (cS (.int 2))) (cS (.int 2))) (zac (opS zc8 (cS (.int 1)) (opS zcX (opS zbT (vrS 0) (cS (.int 4))) (cS (.int 12)))) (zac (opS zcX (opS zbT (vrS 0) (cS (.int 48))) (cS (.int 13))) zaq)))))) zbG)
 (zdH 0 (opS zbT (vrS 0) (cS (.int 624)))))
noncomputable def zfv : Sm :=
 (zbn (ziq 2 (zdE zaq))
 (zbn (zhg [3] (itA zmi (zac (cbS zdK (zac (vrS 1) zaq)) zaq)) (nmG 3) zcz)
 (retS (cbS zfn (zac (vrS 2) zaq)))))
noncomputable def zco : List T -> Option T := zef ["_law_cell", "_law_owners", "_law_found", "_law_place"] 2 zfv
noncomputable def zer : Sm :=
 (retS (zgr (instS "int" (vrS 0)) (zgr (zrw (instS "bool" (vrS 0))) (zgr (opS leI (vrS 1) (vrS 0)) (opS leI (vrS 0) (vrS 2))))))
noncomputable def zaG : List T -> Option T := zef ["_law_thing", "_law_least", "_law_most"] 3 zer
noncomputable def zgf : Sm :=
 (retS (zgr (instS "tuple" (vrS 0)) (opS (eqS false) (cbS zdK (zac (vrS 0) zaq)) (vrS 1))))
noncomputable def zbe : List T -> Option T := zef ["_law_thing", "_law_many"] 2 zgf
noncomputable def zlZ : Sm :=
 (retS (opS ixS (zdE (zac (cS (.int 13)) (zac (opS zhs (cS (.int 0)) (cS (.int 13))) (zac (cS (.int 12)) (zac (cS (.int 0)) (zac (opS zhs (cS (.int 0)) (cS (.int 1))) (zac (cS (.bl true)) (zac (cS .non) (zac (cS (.str "0")) (zac (tupS (zac (cS (.int 0)) zaq)) (zac (zdE (zac (cS (.int 0)) zaq)) (zac (cS (.int 8)) (zac (cS (.str "keeper")) (zac (opS zhs (cS (.int 0)) (cS (.int 12))) (zac (cS (.int 1)) (zac (cS (.int 2)) (zac (cS (.int 3)) zaq))))))))))))))))) (opS zcX (vrS 0) (cS (.int 16)))))
noncomputable def ze4 : List T -> Option T := zef ["_law_number"] 1 zlZ
noncomputable def ziu : Sm :=
 (retS (opS zc8 (opS zc8 (zng (vrS 0) none (some (vrS 1))) (tupS (zac (zaI 2) zaq))) (zng (vrS 0) (some (opS zc8 (vrS 1) (cS (.int 1)))) none)))
noncomputable def zbf : List T -> Option T := zef ["_law_row_here", "_law_at", "_law_thing"] 3 ziu
noncomputable def zcg : Sm :=
 (retS (zgr (cbS zdm (zac (zaI 0) zaq)) (chS leI leI (vrS 1) (vrS 0) (vrS 2))))
noncomputable def zba : List T -> Option T := zef ["thing", "least", "most"] 3 zcg
noncomputable def zdz : Ev -> Option T :=
 lcS [none] (itS (vrS 0)) (nmG 0) zed (cbS zeb (zac (zaI 0) zaq))
noncomputable def zd0 : Sm :=
 (zbn (ifS (zic (zbU (ze5 (instS "tuple" (vrS 0)))) (zbU (zfx (chS leI leI (cS (.int 1)) (cbS zdK (zac (vrS 0) zaq)) (cS (.int 8)))))) (retS (cS (.bl false))) zbG)
 (retS (cbS (bsS fun bs => bs.all id) (zac zdz zaq))))
noncomputable def zbR : List T -> Option T := zef ["thing"] 1 zd0
noncomputable def zcU : Sm :=
 (zbn (zdH 7 (cbS zaS (zac (zaI 0) (zac (opS zc8 (vrS 1) (vrS 6)) zaq))))
 (zbn (zdH 8 (opS zcX (vrS 7) (vrS 2)))
 (zbn (ifS (zfx (opS ltS (vrS 6) (vrS 2))) (zdH 8 (zaI 6)) zbG)
 (zbn (ziq 9 (zdE (zac (opS zhs (opS zcX (opS zbT (vrS 7) (cS (.int 64))) (opS zc8 (opS zd6 (cS (.int 2)) (vrS 4)) (cS (.int 1)))) (vrS 4)) (zac (opS zhs (opS zcX (opS zbT (vrS 7) (cS (.int 2048))) (opS zc8 (opS zd6 (cS (.int 2)) (vrS 4)) (cS (.int 1)))) (vrS 4)) zaq))))
 (zbn (ifS (zfx (opS (eqS false) (opS zcX (opS zbT (vrS 7) (cS (.int 65536))) (cS (.int 5))) (cS (.int 0)))) (zqr 9 (opS zcX (opS zbT (vrS 7) (cS (.int 327680))) (cS (.int 2))) (cS (.int 0))) zbG)
 (zkl 5 (tupS (zac (zaI 8) (zac (opS zcX (opS zbT (vrS 7) (cS (.int 8))) (vrS 2)) (zac (opS ixS (vrS 9) (cS (.int 0))) (zac (opS ixS (vrS 9) (cS (.int 1))) zaq)))))))))))
noncomputable def zgG : Sm :=
 (zbn (ziq 5 (zdE zaq))
 (zbn (zhg [6, 7, 8, 9] (itA zmi (zac (opS zc8 (vrS 2) (vrS 3)) zaq)) (nmG 6) zcU)
 (retS (cbS zfn (zac (cbS zdn (zac (vrS 5) zaq)) zaq)))))
noncomputable def zdl : List T -> Option T := zef ["_law_script", "_law_at", "_law_many", "_law_more", "_law_span", "_law_found", "_law_k", "_law_number", "_law_start", "_law_coins"] 5 zgG
noncomputable def zfF : Sm :=
 (zbn (ifS (zlB (ze5 (vrS 2)) (zfx (opS ltS (vrS 1) (cbS zdK (zac (vrS 0) zaq))))) (retS (opS zcX (opS ixS (vrS 0) (vrS 1)) (opS zpE (cS (.int 10)) (cS (.int 64))))) zbG)
 (zbn (zdH 3 (cbS zaS (zac (zaI 0) (zac (zaI 1) zaq))))
 (retS (opS zc8 (opS zd6 (opS zd6 (vrS 3) (vrS 3)) (vrS 3)) (opS zd6 (cS (.int 104729)) (vrS 3))))))
noncomputable def zbI : List T -> Option T := zef ["_law_script", "_law_at", "_law_digits", "_law_mixed_here"] 3 zfF
noncomputable def zeh : Sm :=
 (zbn (ifS (zic (zbU (ze5 (cbS zbe (zac (zaI 0) (zac (cS (.int 4)) zaq))))) (zic (zbU (ze5 (cbS zaG (zac (opS ixS (vrS 0) (cS (.int 0))) (zac (cS (.int 0)) (zac (opS zhs (vrS 1) (cS (.int 1))) zaq)))))) (zbU (ze5 (cbS zaG (zac (opS ixS (vrS 0) (cS (.int 1))) (zac (cS (.int 0)) (zac (opS zhs (vrS 1) (cS (.int 1))) zaq)))))))) (retS (cS (.bl false))) zbG)
 (retS (zgr (cbS zaG (zac (opS ixS (vrS 0) (cS (.int 2))) (zac (zo7 (cS (.int 12))) (zac (cS (.int 12)) zaq)))) (cbS zaG (zac (opS ixS (vrS 0) (cS (.int 3))) (zac (zo7 (cS (.int 12))) (zac (cS (.int 12)) zaq)))))))
noncomputable def zbH : List T -> Option T := zef ["_law_thing", "_law_many"] 2 zeh
noncomputable def zdJ : Sm :=
 (zbn (ifS (zic (zbU (ze5 (cbS zbe (zac (zaI 0) (zac (cS (.int 4)) zaq))))) (zbU (ze5 (cbS zaG (zac (opS ixS (vrS 0) (cS (.int 0))) (zac (cS (.int 0)) (zac (opS zhs (cbS zdK (zac (vrS 1) zaq)) (cS (.int 1))) zaq))))))) (retS (cS (.bl false))) zbG)
 (zbn (ifS (zic (zfx (opS (eqS true) (opS ixS (vrS 1) (opS ixS (vrS 0) (cS (.int 0)))) (cS (.str "keeper")))) (zbU (ze5 (cbS zaG (zac (opS ixS (vrS 0) (cS (.int 1))) (zac (cS (.int 0)) (zac (cS (.int 1)) zaq))))))) (retS (cS (.bl false))) zbG)
 (retS (zgr (cbS zaG (zac (opS ixS (vrS 0) (cS (.int 2))) (zac (cS (.int 1)) (zac (cS (.int 12)) zaq)))) (cbS zaG (zac (opS ixS (vrS 0) (cS (.int 3))) (zac (cS (.int 0)) (zac (cS (.int 12)) zaq))))))))
noncomputable def zbu : List T -> Option T := zef ["_law_thing", "_law_owners"] 2 zdJ
noncomputable def zdX : Sm :=
 (zbn (zrY (zaI 0) (tpG 4 (zgo (nmG 2) (zgo (nmG 3) (zgo (nmG 4) (zgo (nmG 5) zqo))))))
 (zbn (zdH 6 (cbS ze4 (zac (opS zbT (vrS 1) (cS (.int 21))) zaq)))
 (zbn (zdH 7 (opS zbT (vrS 1) (cS (.int 336))))
 (zbn (zdH 8 (opS ixS (vrS 4) (opS zcX (vrS 7) (cbS zdK (zac (vrS 4) zaq)))))
 (zbn (zdH 9 (tupS (zac (opS zcX (vrS 7) (cbS zdK (zac (vrS 3) zaq))) (zac (opS zcX (opS zbT (vrS 7) (cS (.int 8))) (cS (.int 2))) (zac (opS zc8 (cS (.int 1)) (opS zcX (opS zbT (vrS 7) (cS (.int 16))) (cS (.int 12)))) (zac (opS zcX (opS zbT (vrS 7) (cS (.int 192))) (cS (.int 13))) zaq))))))
 (zbn (ziq 10 (zdE (zac (zaI 0) (zac (tupS (zac (cbS zbf (zac (zaI 2) (zac (opS zcX (vrS 7) (cS (.int 2))) (zac (zaI 6) zaq)))) (zac (zaI 3) (zac (zaI 4) (zac (zaI 5) zaq))))) (zac (tupS (zac (zaI 2) (zac (opS zc8 (vrS 3) (tupS (zac (zaI 6) zaq))) (zac (zaI 4) (zac (zaI 5) zaq))))) zaq)))))
 (zbn (ziq 10 (opS zc8 (vrS 10) (zdE (zac (tupS (zac (zaI 2) (zac (cbS zbf (zac (zaI 3) (zac (opS zcX (vrS 7) (cbS zdK (zac (vrS 3) zaq))) (zac (zaI 6) zaq)))) (zac (zaI 4) (zac (zaI 5) zaq))))) (zac (tupS (zac (cbS listS (zac (vrS 2) zaq)) (zac (zaI 3) (zac (zaI 4) (zac (zaI 5) zaq))))) zaq)))))
 (zbn (zdH 11 (cbS zbf (zac (zaI 4) (zac (opS zcX (vrS 7) (cbS zdK (zac (vrS 4) zaq))) (zac (cbS zbf (zac (zaI 8) (zac (opS zcX (opS zbT (vrS 7) (cS (.int 24))) (cS (.int 4))) (zac (zaI 6) zaq)))) zaq)))))
 (zbn (ziq 10 (opS zc8 (vrS 10) (zdE (zac (tupS (zac (zaI 2) (zac (zaI 3) (zac (zaI 11) (zac (zaI 5) zaq))))) (zac (tupS (zac (zaI 2) (zac (zaI 3) (zac (cbS zfn (zac (cbS zkB (zac (opS zc8 (vrS 4) (tupS (zac (zaI 8) zaq))) zaq)) zaq)) (zac (zaI 5) zaq))))) zaq)))))
 (zbn (ziq 10 (opS zc8 (vrS 10) (zdE (zac (tupS (zac (zaI 2) (zac (zaI 3) (zac (zr1 (vrS 4)) (zac (zaI 5) zaq))))) (zac (tupS (zac (zaI 2) (zac (zaI 3) (zac (zng (vrS 4) none (some (zo7 (cS (.int 1))))) (zac (zaI 5) zaq))))) zaq)))))
 (zbn (ziq 10 (opS zc8 (vrS 10) (zdE (zac (tupS (zac (zaI 2) (zac (zng (vrS 3) none (some (zo7 (cS (.int 1))))) (zac (zaI 4) (zac (zaI 5) zaq))))) zaq))))
 (zbn (zdH 12 (cbS zbf (zac (zaI 9) (zac (opS zcX (opS zbT (vrS 7) (cS (.int 9))) (cS (.int 4))) (zac (zaI 6) zaq)))))
 (zbn (ziq 10 (opS zc8 (vrS 10) (zdE (zac (tupS (zac (zaI 2) (zac (zaI 3) (zac (zaI 4) (zac (tupS (zac (zaI 9) zaq)) zaq))))) (zac (tupS (zac (zaI 2) (zac (zaI 3) (zac (zaI 4) (zac (tupS (zac (zaI 12) zaq)) zaq))))) zaq)))))
 (zbn (ziq 10 (opS zc8 (vrS 10) (zdE (zac (tupS (zac (zaI 2) (zac (zaI 3) (zac (zaI 4) (zac (opS zc8 (vrS 5) (tupS (zac (zaI 9) zaq))) zaq))))) (zac (tupS (zac (zaI 2) (zac (zaI 3) (zac (cbS listS (zac (vrS 4) zaq)) (zac (zaI 5) zaq))))) zaq)))))
 (zbn (zkl 10 (tupS (zac (zaI 2) (zac (zaI 3) (zac (tupS zaq) (zac (tupS zaq) zaq))))))
 (zbn (ziq 10 (opS zc8 (vrS 10) (zdE (zac (tupS (zac (zaI 2) (zac (opS zc8 (vrS 3) (tupS (zac (cS (.str "taker")) zaq))) (zac (zaI 4) (zac (zaI 5) zaq))))) (zac (tupS (zac (zaI 2) (zac (zaI 3) (zac (zaI 4) zaq)))) zaq)))))
 (zbn (ziq 10 (opS zc8 (vrS 10) (zdE (zac (opS zc8 (vrS 0) (tupS (zac (tupS zaq) zaq))) (zac (cbS listS (zac (vrS 0) zaq)) zaq)))))
 (zbn (zkl 10 (tupS (zac (zaI 2) (zac (zaI 3) (zac (cbS zbf (zac (zaI 4) (zac (opS zcX (vrS 7) (cbS zdK (zac (vrS 4) zaq))) (zac (cbS listS (zac (vrS 8) zaq)) zaq)))) (zac (zaI 5) zaq))))))
 (retS (opS ixS (opS zc8 (vrS 10) (zdE (zac (tupS (zac (zaI 2) (zac (opS zd6 (tupS (zac (cS (.str "Keeper")) zaq)) (cbS zdK (zac (vrS 3) zaq))) (zac (zaI 4) (zac (zaI 5) zaq))))) zaq))) (opS zcX (vrS 1) (cS (.int 21)))))))))))))))))))))))
noncomputable def zc6 : List T -> Option T := zef ["_law_floor_here", "_law_number", "_law_brims", "_law_owners", "_law_ways_here", "_law_stalls_here", "_law_odd_here", "_law_at", "_law_way", "_law_stall", "_law_some", "_law_turned_here", "_law_spoilt"] 2 zdX
noncomputable def zcr : Ev -> Option T :=
 lcS [none, none] (itA zo5 (zac (vrS 0) (zac (vrS 1) zaq))) (tpG 2 (zgo (nmG 0) (zgo (nmG 1) zqo))) zed (cbS zba (zac (zaI 0) (zac (opS ixS (vrS 1) (cS (.int 0))) (zac (opS ixS (vrS 1) (cS (.int 1))) zaq))))
noncomputable def zcW : Sm :=
 (zbn (ifS (zic (zbU (ze5 (instS "tuple" (vrS 0)))) (zfx (opS (eqS true) (cbS zdK (zac (vrS 0) zaq)) (cbS zdK (zac (vrS 1) zaq))))) (retS (cS (.bl false))) zbG)
 (retS (cbS (bsS fun bs => bs.all id) (zac zcr zaq))))
noncomputable def za2 : List T -> Option T := zef ["thing", "bounds"] 2 zcW
noncomputable def zcn : Sm :=
 (zkl 6 (opS ixS (zdE (zac (cS (.str "keeper")) (zac (cS (.str "taker")) zaq))) (opS zoU (opS zre (vrS 5) (vrS 7)) (cS (.int 1)))))
noncomputable def zes : Sm :=
 (zbn (zdH 5 (cbS zaS (zac (zaI 0) (zac (zaI 1) zaq))))
 (zbn (ziq 6 (zdE zaq))
 (zbn (zhg [7] (itA zmi (zac (vrS 2) zaq)) (nmG 7) zcn)
 (zbn (zdH 8 (opS ixS (zdE (zac (cS (.int 1)) (zac (cS (.int 2)) (zac (cS (.int 3)) (zac (cS (.int 12)) zaq))))) (opS zcX (opS zbT (vrS 5) (cS (.int 256))) (cS (.int 4)))))
 (zbn (zdH 9 (tupS zaq))
 (zbn (ifS (zfx (opS (eqS false) (opS zcX (opS zbT (vrS 5) (cS (.int 1024))) (cS (.int 3))) (cS (.int 1)))) (fzS 6 (zdH 9 (cbS zco (zac (cbS zbI (zac (zaI 0) (zac (opS zc8 (vrS 1) (cS (.int 1))) (zac (opS (eqS false) (opS zcX (opS zbT (vrS 5) (cS (.int 3072))) (cS (.int 2))) (cS (.int 1))) zaq)))) (zac (zaI 6) zaq))))) zbG)
 (retS (tupS (zac (zaI 3) (zac (cbS zfn (zac (vrS 6) zaq)) (zac (cbS zdl (zac (zaI 0) (zac (opS zc8 (vrS 1) (cS (.int 2))) (zac (zaI 2) (zac (zaI 4) (zac (zaI 8) zaq)))))) (zac (zaI 9) zaq))))))))))))
noncomputable def zbC : List T -> Option T := zef ["_law_script", "_law_at", "_law_many", "_law_brims", "_law_more", "_law_number", "_law_owners", "_law_place", "_law_span", "_law_stalls_here"] 5 zes
noncomputable def zdx : Ev -> Option T :=
 lcS [none] (itS (vrS 1)) (nmG 0) zed (zgr (instS "str" (vrS 0)) (opS (inS false) (vrS 0) (zdE (zac (cS (.str "keeper")) (zac (cS (.str "taker")) zaq)))))
noncomputable def zdv : Ev -> Option T :=
 lcS [none, some 1] (itS (opS ixS (vrS 0) (cS (.int 2)))) (nmG 0) zed (cbS zbH (zac (zaI 0) (zac (cbS zdK (zac (vrS 1) zaq)) zaq)))
noncomputable def zdu : Ev -> Option T :=
 lcS [none, some 1] (itS (opS ixS (vrS 0) (cS (.int 3)))) (nmG 0) zed (cbS zbu (zac (zaI 0) (zac (zaI 1) zaq)))
noncomputable def zbE : Sm :=
 (ifS (zbU (zfx (opS ltS (opS ixS (opS ixS (vrS 0) (cS (.int 2))) (opS zhs (vrS 2) (cS (.int 1)))) (opS ixS (opS ixS (vrS 0) (cS (.int 2))) (vrS 2))))) (retS (cS (.bl false))) zbG)
noncomputable def zb5 : Sm :=
 (ifS (zbU (zfx (opS ltS (opS ixS (opS ixS (opS ixS (vrS 0) (cS (.int 3))) (opS zhs (vrS 2) (cS (.int 1)))) (cS (.int 0))) (opS ixS (opS ixS (opS ixS (vrS 0) (cS (.int 3))) (vrS 2)) (cS (.int 0)))))) (retS (cS (.bl false))) zbG)
noncomputable def zcy : Ev -> Option T :=
 lcS [none] (itS (opS ixS (vrS 0) (cS (.int 2)))) (nmG 0) zed (opS ixS (vrS 0) (cS (.int 0)))
noncomputable def zfw : Sm :=
 (zbn (ifS (zic (zbU (ze5 (cbS zbe (zac (zaI 0) (zac (cS (.int 4)) zaq))))) (zbU (ze5 (cbS zbe (zac (opS ixS (vrS 0) (cS (.int 0))) (zac (cS (.int 2)) zaq)))))) (retS (cS (.bl false))) zbG)
 (zbn (ifS (zic (zbU (ze5 (cbS zaG (zac (opS ixS (opS ixS (vrS 0) (cS (.int 0))) (cS (.int 0))) (zac (cS (.int 0)) (zac (cS (.int 12)) zaq)))))) (zbU (ze5 (cbS zaG (zac (opS ixS (opS ixS (vrS 0) (cS (.int 0))) (cS (.int 1))) (zac (cS (.int 0)) (zac (cS (.int 12)) zaq))))))) (retS (cS (.bl false))) zbG)
 (zbn (zdH 1 (opS ixS (vrS 0) (cS (.int 1))))
 (zbn (ifS (zic (zbU (ze5 (instS "tuple" (vrS 1)))) (zic (zfx (opS ltS (cbS zdK (zac (vrS 1) zaq)) (cS (.int 1)))) (zfx (opS gtI (cbS zdK (zac (vrS 1) zaq)) (cS (.int 8)))))) (retS (cS (.bl false))) zbG)
 (zbn (ifS (zbU (ze5 (cbS (bsS fun bs => bs.all id) (zac zdx zaq)))) (retS (cS (.bl false))) zbG)
 (zbn (ifS (zic (zbU (ze5 (instS "tuple" (opS ixS (vrS 0) (cS (.int 2)))))) (zic (zbU (ze5 (instS "tuple" (opS ixS (vrS 0) (cS (.int 3)))))) (zfx (opS gtI (cbS zdK (zac (opS ixS (vrS 0) (cS (.int 2))) zaq)) (cS (.int 24)))))) (retS (cS (.bl false))) zbG)
 (zbn (ifS (zbU (ze5 (cbS (bsS fun bs => bs.all id) (zac zdv zaq)))) (retS (cS (.bl false))) zbG)
 (zbn (ifS (zbU (ze5 (cbS (bsS fun bs => bs.all id) (zac zdu zaq)))) (retS (cS (.bl false))) zbG)
 (zbn (zhg [2] (itA zjH (zac (cS (.int 1)) (zac (cbS zdK (zac (opS ixS (vrS 0) (cS (.int 2))) zaq)) zaq))) (nmG 2) zbE)
 (zbn (zhg [2] (itA zjH (zac (cS (.int 1)) (zac (cbS zdK (zac (opS ixS (vrS 0) (cS (.int 3))) zaq)) zaq))) (nmG 2) zb5)
 (retS (opS (eqS false) (cbS zdn (zac zcy zaq)) (cbS zf1 (zac (cbS zdK (zac (vrS 1) zaq)) zaq))))))))))))))
noncomputable def zbB : List T -> Option T := zef ["_law_thing", "_law_owners", "_law_k"] 1 zfw
noncomputable def zb2 : Ev -> Option T :=
 lcS [none, some 1] (itS (vrS 0)) (nmG 0) zed (cbS za2 (zac (zaI 0) (zac (zaI 1) zaq)))
noncomputable def zch : Sm :=
 (retS (zgr (instS "tuple" (vrS 0)) (cbS (bsS fun bs => bs.all id) (zac zb2 zaq))))
noncomputable def zaN : List T -> Option T := zef ["thing", "bounds"] 2 zch
noncomputable def zgg : Sm :=
 (retS (cbS za2 (zac (zaI 0) (zac (tupS (zac (tupS (zac (cS (.int 0)) (zac (cS (.int 12)) zaq))) (zac (tupS (zac (cS (.int 0)) (zac (cS (.int 12)) zaq))) zaq))) zaq))))
noncomputable def zcV : List T -> Option T := zef ["thing"] 1 zgg
noncomputable def zep : Ev -> Option T :=
 lcS [none] (itS (vrS 0)) (nmG 0) zed (opS ixS (vrS 0) (cS (.int 0)))
noncomputable def zeo : Ev -> Option T :=
 lcS [none, some 4] (itA zmi (zac (vrS 1) zaq)) (nmG 0) zed (opS (inS false) (vrS 0) (vrS 1))
noncomputable def zfl : Sm :=
 (zbn (zdH 2 (tupS (zac (cS (.int 0)) (zac (opS zhs (vrS 1) (cS (.int 1))) zaq))))
 (zbn (zdH 3 (tupS (zac (zo7 (cS (.int 12))) (zac (cS (.int 12)) zaq))))
 (zbn (ifS (zbU (ze5 (cbS zaN (zac (zaI 0) (zac (tupS (zac (zaI 2) (zac (zaI 2) (zac (zaI 3) (zac (zaI 3) zaq))))) zaq))))) (retS (cS (.bl false))) zbG)
 (zbn (zdH 4 zep)
 (retS (zgr (opS leI (cbS zdK (zac (vrS 0) zaq)) (cS (.int 24))) (zgr (cbS zbj (zac (zaI 0) zaq)) (cbS (bsS fun bs => bs.all id) (zac zeo zaq)))))))))
noncomputable def zcI : List T -> Option T := zef ["thing", "places", "place", "coins", "starts"] 2 zfl
noncomputable def zdy : Ev -> Option T :=
 lcS [none] (itS (vrS 0)) (nmG 0) zed (opS ixS (vrS 0) (cS (.int 0)))
noncomputable def zdw : Ev -> Option T :=
 lcS [none, some 1] (itS (vrS 0)) (nmG 0) zed (opS (eqS false) (opS ixS (vrS 1) (opS ixS (vrS 0) (cS (.int 0)))) (cS (.str "keeper")))
noncomputable def zdY : Sm :=
 (zbn (zdH 2 (tupS (zac (cS (.int 0)) (zac (opS zhs (cbS zdK (zac (vrS 1) zaq)) (cS (.int 1))) zaq))))
 (zbn (ifS (zbU (ze5 (cbS zaN (zac (zaI 0) (zac (tupS (zac (zaI 2) (zac (tupS (zac (cS (.int 0)) (zac (cS (.int 1)) zaq))) (zac (tupS (zac (cS (.int 1)) (zac (cS (.int 12)) zaq))) (zac (tupS (zac (cS (.int 0)) (zac (cS (.int 12)) zaq))) zaq))))) zaq))))) (retS (cS (.bl false))) zbG)
 (retS (zgr (cbS zbj (zac zdy zaq)) (cbS (bsS fun bs => bs.all id) (zac zdw zaq))))))
noncomputable def zbQ : List T -> Option T := zef ["thing", "owners", "place"] 2 zdY
noncomputable def zbS : Sm :=
 (zbn (ifS (zic (zbU (ze5 (instS "tuple" (vrS 0)))) (zfx (opS (eqS true) (cbS zdK (zac (vrS 0) zaq)) (cS (.int 4))))) (retS (cS (.bl false))) zbG)
 (zbn (ifS (zic (zbU (ze5 (cbS zcV (zac (opS ixS (vrS 0) (cS (.int 0))) zaq)))) (zbU (ze5 (cbS zbR (zac (opS ixS (vrS 0) (cS (.int 1))) zaq))))) (retS (cS (.bl false))) zbG)
 (retS (zgr (cbS zcI (zac (opS ixS (vrS 0) (cS (.int 2))) (zac (cbS zdK (zac (opS ixS (vrS 0) (cS (.int 1))) zaq)) zaq))) (cbS zbQ (zac (opS ixS (vrS 0) (cS (.int 3))) (zac (opS ixS (vrS 0) (cS (.int 1))) zaq)))))))
noncomputable def zaH : List T -> Option T := zef ["thing"] 1 zbS
noncomputable def zju : Sm :=
 (zbn (zdH 5 (cbS zc6 (zac (zaI 3) (zac (cbS zaS (zac (zaI 0) (zac (zaI 4) zaq))) zaq))))
 (zbn (zdH 6 (cbS zaH (zac (zaI 5) zaq)))
 (ifS (zic (zbU (ze5 (instS "bool" (vrS 6)))) (zfx (opS (eqS true) (vrS 6) (cbS zbB (zac (zaI 5) zaq))))) (retS (cS (.bl false))) zbG)))
noncomputable def zjr : Ev -> Option T :=
 lcS [none] (itA zmi (zac (vrS 2) zaq)) (nmG 0) zed (tupS (zac (zaI 0) (zac (cS (.int 0)) (zac (cS (.int 0)) (zac (cS (.int 0)) zaq)))))
noncomputable def zjt : Sm :=
 (zbn (zdH 7 (tupS (zac (opS ixS (vrS 3) (cS (.int 0))) (zac (opS zd6 (tupS (zac (cS (.str "taker")) zaq)) (vrS 2)) (zac (cbS zfn (zac zjr zaq)) (zac (tupS zaq) zaq))))))
 (ifS (zfx (opS (eqS true) (cbS zaH (zac (zaI 7) zaq)) (opS ltS (vrS 2) (cS (.int 9))))) (retS (cS (.bl false))) zbG))
noncomputable def zjq : Ev -> Option T :=
 lcS [none, some 1] (itA zmi (zac (vrS 8) zaq)) (nmG 0) zed (tupS (zac (cS (.int 0)) (zac (cS (.int 0)) (zac (opS zhs (vrS 0) (cS (.int 12))) (zac (opS zhs (opS zcX (vrS 1) (cS (.int 25))) (cS (.int 12))) zaq)))))
noncomputable def zjs : Sm :=
 (zbn (zdH 9 (tupS (zac (opS ixS (vrS 3) (cS (.int 0))) (zac (tupS (zac (cS (.str "keeper")) zaq)) (zac (cbS zfn (zac zjq zaq)) (zac (tupS zaq) zaq))))))
 (ifS (zfx (opS (eqS true) (cbS zaH (zac (zaI 9) zaq)) (opS ltS (vrS 8) (cS (.int 25))))) (retS (cS (.bl false))) zbG))
noncomputable def zo4 : Sm :=
 (zbn (zdH 1 (cbS zaS (zac (zaI 0) (zac (cS (.int 0)) zaq))))
 (zbn (zdH 2 (opS zc8 (cS (.int 1)) (opS zcX (vrS 1) (cS (.int 8)))))
 (zbn (zdH 3 (cbS zbC (zac (zaI 0) (zac (cS (.int 2)) (zac (zaI 2) (zac (tupS (zac (opS zcX (opS zbT (vrS 1) (cS (.int 8))) (cS (.int 13))) (zac (opS zcX (opS zbT (vrS 1) (cS (.int 104))) (cS (.int 13))) zaq))) (zac (opS zcX (opS zbT (vrS 1) (cS (.int 1352))) (cS (.int 17))) zaq)))))))
 (zbn (ifS (zic (zfx (opS (isS true) (cbS zaH (zac (zaI 3) zaq)) (cS (.bl true)))) (zbU (ze5 (cbS zbB (zac (zaI 3) zaq))))) (retS (cS (.bl false))) zbG)
 (zbn (zhg [5, 6] (itA zjH (zac (cS (.int 30)) (zac (cS (.int 62)) zaq))) (nmG 4) zju)
 (zbn (zhg [2, 7] (itS (zdE (zac (cS (.int 1)) (zac (cS (.int 8)) (zac (cS (.int 9)) zaq))))) (nmG 2) zjt)
 (zbn (zhg [8, 9] (itS (zdE (zac (cS (.int 23)) (zac (cS (.int 24)) (zac (cS (.int 25)) zaq))))) (nmG 8) zjs)
 (retS (opS (isS false) (cbS zaH (zac (opS ixS (zdE (zac (cS .non) (zac (cS (.int 5)) (zac (cS (.str "floor")) (zac (tupS zaq) (zac (cS .dic) (zac (zdE (zac (zaI 3) zaq)) (zac (tupS (zac (tupS zaq) (zac (tupS zaq) (zac (tupS zaq) (zac (tupS zaq) zaq))))) zaq)))))))) (opS zcX (vrS 1) (cS (.int 7)))) zaq)) (cS (.bl false)))))))))))
noncomputable def zlY : List T -> Option T := zef ["_law_script", "_law_number", "_law_many", "_law_floor_here", "_law_k", "_law_thing", "_law_found", "_law_places", "_law_most", "_law_ways_here"] 1 zo4
end K01
namespace K01
open PySem L2 L3 L5
noncomputable def wh (t : T) (a b : Int) : Bool := match t with
 | .int i => decide (a <= i) && decide (i <= b)
 | _ => false
theorem zlV (t : T) : zdm [t] = some (.bl (match t with | .int _ => true | _ => false)) := by
 cases t <;> simp [zdm, zgH, isT]
theorem zm6 (t : T) (a b : Int) : zba [t, .int a, .int b] = some (.bl (wh t a b)) := by
 cases t with
 | int i =>
  unfold zba zcg wh
  by_cases h1 : a <= i <;> by_cases h2 : i <= b <;> simp [zlV, h1, h2]
 | _ => simp [zba, zcg, wh, zlV]
theorem zbg (t : T) (a b : Int) : zaG [t, .int a, .int b] = some (.bl (wh t a b)) := by
 cases t with
 | int i =>
  unfold zaG zer wh
  by_cases h1 : a <= i <;> by_cases h2 : i <= b <;> simp [isT, h1, h2]
 | _ => simp [zaG, zer, wh, isT]
noncomputable def tl (t : T) (n : Nat) : Bool := match t with
 | .tup ts => decide (ts.length = n)
 | _ => false
theorem eq_int (i j : Int) (neg : Bool) : eqS neg (.int i) (.int j) = some (.bl (cond neg (!decide (i = j)) (decide (i = j)))) := by
 have : eqT (.int i) (.int j) = decide (i = j) := by simp [eqT, Bool.beq_eq_decide_eq]
 simp [eqS, dep, this]
theorem zm9 (t : T) (n : Nat) : zbe [t, .int n] = some (.bl (tl t n)) := by
 cases t with
 | tup ts =>
  unfold zbe zgf tl
  simp [isT, eq_int]
  omega
 | _ => simp [zbe, zgf, tl, isT]
end K01
namespace K01
open PySem L2 L3 L5
theorem zgI {α : Type} (enc : α -> T) : ∀ (ts : List T) (bs : List α), List.zipWith (fun a b => T.tup [a, b]) ts (bs.map enc) = (ts.zip bs).map fun p => T.tup [p.1, enc p.2]
 | [], bs => by simp
 | t :: ts, [] => by simp
 | t :: ts, b :: bs => by simp [zgI enc ts bs]
theorem zb4 {α : Type} (g : α -> Bool) (xs : List α) : zoS (xs.map fun x => T.bl (g x)) = some (xs.map g) := by
 have := zmX (xs.map g)
 rw [List.map_map] at this
 exact this
theorem zc5 {α : Type} (g : α -> Bool) (xs : List α) : (xs.map g).all id = xs.all g := by
 rw [List.all_map]; rfl
noncomputable def zc1 (t : T) (bs : List (Int × Int)) : Bool := match t with
 | .tup ts => decide (ts.length = bs.length) && (ts.zip bs).all fun p => wh p.1 p.2.1 p.2.2
 | _ => false
theorem zfu (t : T) (bs : List (Int × Int)) (hl : bs.length <= 100) : za2 [t, .tup (bs.map prT)] = some (.bl (zc1 t bs)) := by
 cases t with
 | tup ts =>
  unfold za2 zcW zc1
  by_cases h : ts.length = bs.length
  ·have hc : zcr [some (.im (.tup ts)), some (.im (.tup (bs.map prT)))] = some (.lst ((ts.zip bs).map fun p => T.bl (wh p.1 p.2.1 p.2.2))) := by
    unfold zcr
    refine zcS (fun p : T × (Int × Int) => T.tup [p.1, prT p.2]) _ (ts.zip bs) ?_ ?_ fun p hp => ?_
    ·simp [zgI]
    ·simp; omega
    ·simp [lcE, prT, zm6]
   simp [isT, eq_int, h, hc, zb4, zc5]
  ·have h' : ¬ (ts.length : Int) = bs.length := by omega
   simp [isT, eq_int, h, h']
 | _ => simp [za2, zcW, zc1, isT]
noncomputable def ziC (t : T) (bs : List (Int × Int)) : Bool := match t with
 | .tup ts => ts.all fun r => zc1 r bs
 | _ => false
def szT (t : T) : Prop := ∀ ts, zhF t = some ts -> ts.length <= 16777216
theorem ze3 (t : T) (bs : List (Int × Int)) (hl : bs.length <= 100) (hz : szT t) : zaN [t, .tup (bs.map prT)] = some (.bl (ziC t bs)) := by
 cases t with
 | tup ts =>
  have hz' := hz ts rfl
  have hc : zb2 [some (.im (.tup ts)), some (.im (.tup (bs.map prT)))] = some (.lst (ts.map fun r => T.bl (zc1 r bs))) := by
   unfold zb2
   refine zcS (fun r : T => r) _ ts ?_ hz' fun p hp => ?_
   ·simp
   ·simp [lcE, zfu _ _ hl]
  unfold zaN zch ziC
  simp [isT, hc, zb4, zc5]
 | _ => simp [zaN, zch, ziC, isT]
theorem zmg {t : T} {bs : List (Int × Int)} (h : zc1 t bs = true) : ∃ r : List Int, t = zaV r /\ r.length = bs.length /\ ∀ (i : Nat) x b, r[i]? = some x -> bs[i]? = some b -> b.1 <= x /\ x <= b.2 := by
 cases t with
 | tup ts =>
  simp only [zc1, Bool.and_eq_true, decide_eq_true_eq] at h
  obtain ⟨hl, ha⟩ := h
  have key : ∀ (ts : List T) (bs : List (Int × Int)), ts.length = bs.length -> ((ts.zip bs).all fun p => wh p.1 p.2.1 p.2.2) = true -> ∃ r : List Int, ts = r.map T.int /\ r.length = bs.length /\ ∀ (i : Nat) x b, r[i]? = some x -> bs[i]? = some b -> b.1 <= x /\ x <= b.2 := by
   intro ts
   induction ts with
   | nil => intro bs hl _; exact ⟨[], rfl, by simpa using hl, fun i x b hx => by simp at hx⟩
   | cons t ts ih =>
    intro bs hl ha
    cases bs with
    | nil => simp at hl
    | cons b bs =>
     simp only [List.zip_cons_cons, List.all_cons, Bool.and_eq_true] at ha
     obtain ⟨r, r1, r2, r3⟩ := ih bs (by simpa using hl) ha.2
     cases t with
     | int i =>
      have h1 := ha.1
      simp only [wh, Bool.and_eq_true, decide_eq_true_eq] at h1
      refine ⟨i :: r, by rw [r1]; rfl, by simp [r2], fun j x c hx hc => ?_⟩
      cases j with
      | zero => simp at hx hc; subst hx hc; exact h1
      | succ j => exact r3 j x c (by simpa using hx) (by simpa using hc)
     | _ => simp [wh] at ha
  obtain ⟨r, r1, r2, r3⟩ := key ts bs hl ha
  exact ⟨r, by rw [r1]; rfl, r2, r3⟩
 | _ => simp [zc1] at h
theorem zeD {ts : List T} {bs : List (Int × Int)} (h : (ts.all fun r => zc1 r bs) = true) : ∃ rs : List (List Int), ts = rs.map zaV /\ ∀ r ∈ rs, zc1 (zaV r) bs = true /\ r.length = bs.length /\ ∀ (i : Nat) x b, r[i]? = some x -> bs[i]? = some b -> b.1 <= x /\ x <= b.2 := by
 induction ts with
 | nil => exact ⟨[], rfl, nofun⟩
 | cons t ts ih =>
  simp only [List.all_cons, Bool.and_eq_true] at h
  obtain ⟨rs, h1, h2⟩ := ih h.2
  obtain ⟨r, r1, r2, r3⟩ := zmg h.1
  refine ⟨r :: rs, by rw [h1, r1]; rfl, fun q hq => ?_⟩
  rcases List.mem_cons.mp hq with e | e
  ·subst e; exact ⟨by rw [<- r1]; exact h.1, r2, r3⟩
  ·exact h2 q e
noncomputable def upR : List (List Int) -> Bool
 | a :: b :: l => HT.lexLt a b && upR (b :: l)
 | _ => true
noncomputable def upN : List Int -> Bool
 | a :: b :: l => decide (a < b) && upN (b :: l)
 | _ => true
theorem zkn {α : Type} (lt : α -> α -> Bool) (up : List α -> Bool) (h0 : up [] = true) (h1 : ∀ a, up [a] = true) (h2 : ∀ a b l, up (a :: b :: l) = (lt a b && up (b :: l))) : ∀ l : List α, ((l.zip (l.drop 1)).all fun p => lt p.1 p.2) = up l
 | [] => by simp [h0]
 | [a] => by simp [h1]
 | a :: b :: l => by
  have ih := zkn lt up h0 h1 h2 (b :: l)
  simp only [List.drop_succ_cons, List.drop_zero, List.zip_cons_cons, List.all_cons] at ih ⊢
  rw [h2, <- ih]
theorem zsk {α : Type} (xs : List α) : zgE xs (some 1) none = xs.drop 1 := by
 unfold zgE
 have e : HT.sIx xs.length 0 (some 1) = min 1 xs.length := by simp [HT.sIx]
 have e2 : HT.sIx xs.length xs.length none = xs.length := rfl
 rw [e, e2]
 cases xs with
 | nil => rfl
 | cons x xs => simp
theorem zhp (rs : List (List Int)) (hl : rs.length <= 16777216) : zbj [.tup (rs.map zaV)] = some (.bl (upR rs)) := by
 have hc : zb3 [some (.im (.tup (rs.map zaV)))] = some (.lst ((rs.zip (rs.drop 1)).map fun p => T.bl (HT.lexLt p.1 p.2))) := by
  unfold zb3
  refine zcS (fun p : List Int × List Int => T.tup [zaV p.1, zaV p.2]) _ (rs.zip (rs.drop 1)) ?_ ?_ fun p hp => ?_
  ·simp only [itA, zac, vrS, zng, zqR, cS, zaq, zo5, zq0, Option.bind_some, zsk, zme, Option.map_some, List.getElem?_cons_zero]
   rw [<- List.map_drop, zgI, List.zip_map_left, List.map_map]
   rfl
  ·simp; omega
  ·simp [lcE, zaV, ltS, zdU]
 unfold zbj zdZ
 simp [hc, zb4, zc5]
 have := zkn (fun a b => HT.lexLt a b) upR rfl (fun _ => rfl) (fun _ _ _ => rfl) rs
 simpa using this
theorem zhq (ns : List Int) (hl : ns.length <= 16777216) : zbj [.lst (ns.map T.int)] = some (.bl (upN ns)) := by
 have hc : zb3 [some (.im (.lst (ns.map T.int)))] = some (.lst ((ns.zip (ns.drop 1)).map fun p => T.bl (decide (p.1 < p.2)))) := by
  unfold zb3
  refine zcS (fun p : Int × Int => T.tup [T.int p.1, T.int p.2]) _ (ns.zip (ns.drop 1)) ?_ ?_ fun p hp => ?_
  ·simp only [itA, zac, vrS, zng, zqR, cS, zaq, zo5, zq0, Option.bind_some, zsk, zmf, Option.map_some, List.getElem?_cons_zero]
   rw [<- List.map_drop, zgI, List.zip_map_left, List.map_map]
   rfl
  ·simp; omega
  ·simp [lcE, ltS]
 unfold zbj zdZ
 simp [hc, zb4, zc5]
 have := zkn (fun a b : Int => decide (a < b)) upN rfl (fun _ => rfl) (fun _ _ _ => rfl) ns
 simpa using this
end K01
namespace K01
open PySem L2 L3 L5
noncomputable def znq (k l : Str) (t : T) : Bool := match t with
 | .str x => k == x || l == x
 | _ => false
theorem znD (x k l : Str) (y : T) (hy : zhF y = some [.str k, .str l]) : inS false (.str x) y = some (.bl (k == x || l == x)) := by
 unfold inS
 rw [hy]
 simp [dep, ze6, eqT]
theorem zoi (k l : Str) (t : T) : zef ["thing"] 1 (retS (zgr (instS "str" (vrS 0)) (opS (inS false) (vrS 0) (tupS (zac (cS (.str k)) (zac (cS (.str l)) zaq)))))) [t] = some (.bl (znq k l t)) := by
 cases t with
 | str x =>
  have h := znD x k l (.tup [.str k, .str l]) rfl
  simp [isT, h, znq]
 | _ => simp [znq, isT]
noncomputable def zhS (t : T) : Bool := znq "keeper" "taker" t
theorem zo2 (t : T) : zeb [t] = some (.bl (zhS t)) := zoi "keeper" "taker" t
noncomputable def zbw (t : T) : Bool := match t with
 | .tup ts => (decide (1 <= ts.length) && decide (ts.length <= 8)) && ts.all zhS
 | _ => false
theorem zjv (t : T) : zbR [t] = some (.bl (zbw t)) := by
 cases t with
 | tup ts =>
  unfold zbR zd0 zbw
  by_cases h : 1 <= ts.length
  ·by_cases h' : ts.length <= 8
   ·have hc : zdz [some (.im (.tup ts))] = some (.lst (ts.map fun r => T.bl (zhS r))) := by
     unfold zdz
     refine zcS (fun r : T => r) _ ts ?_ (by omega) fun p hp => ?_
     ·simp
     ·simp [lcE, zo2]
    have e1 : (1 : Int) <= (ts.length : Int) := by omega
    have e2 : (ts.length : Int) <= 8 := by omega
    simp [isT, e1, e2, h, h', hc, zb4, zc5]
   ·have e1 : (1 : Int) <= (ts.length : Int) := by omega
    have e2 : ¬ (ts.length : Int) <= 8 := by omega
    simp [isT, e1, e2, h, h']
  ·have e1 : ¬ (1 : Int) <= (ts.length : Int) := by omega
   simp [isT, e1, h]
 | _ => simp [zbR, zd0, zbw, isT]
noncomputable def rowOf (t : T) : List Int := match t with
 | .tup xs => (zfB xs).getD []
 | _ => []
theorem zkI (r : List Int) : rowOf (zaV r) = r := by simp [rowOf, zaV, zdU]
theorem zcc (rs : List (List Int)) : (rs.map zaV).map rowOf = rs := by
 rw [List.map_map]
 conv => rhs; rw [<- List.map_id rs]
 exact List.map_congr_left fun r _ => zkI r
noncomputable def wb (n : Int) : List (Int × Int) := [(0, n - 1), (0, n - 1), (-12, 12), (-12, 12)]
noncomputable def sb (n : Int) : List (Int × Int) := [(0, n - 1), (0, 1), (1, 12), (0, 12)]
noncomputable def fst (r : List Int) : Int := r.getD 0 0
noncomputable def zcY (t : T) (n : Nat) : Bool := match t with
 | .tup ts => (ts.all fun r => zc1 r (wb n)) && (decide (ts.length <= 24) && (upR (ts.map rowOf) && (List.range n).all fun (k : Nat) => ((ts.map rowOf).map fst).any fun i => decide (i = (k : Int))))
 | _ => false
theorem zrA {r : List Int} (h : r.length = 4) : ixS (zaV r) (.int 0) = some (.int (fst r)) := by
 match r, h with
 | [a, b, c, d], _ => simp [zaV, fst]
theorem znG (a k : Int) : eqT (.int a) (.int k) = decide (a = k) := by simp only [eqT, Bool.beq_eq_decide_eq]
theorem zlP (k : Int) : ∀ ns : List Int, (ns.map T.int).any (fun t => eqT t (.int k)) = ns.any fun i => decide (i = k)
 | [] => rfl
 | n :: ns => by rw [List.map_cons, List.any_cons, List.any_cons, zlP k ns, znG]
theorem znV {r : List Int} (h : r.length = 4) : ∃ a b c d, r = [a, b, c, d] := by
 match r, h with
 | [a, b, c, d], _ => exact ⟨a, b, c, d, rfl⟩
theorem zga : ∀ ns : List Int, ze6 (ns.map T.int) = 0
 | [] => rfl
 | n :: ns => by simp [ze6, dep, zga ns]
theorem zqV (t : T) (n : Nat) (hn : n <= 1000) (hz : szT t) : zcI [t, .int n] = some (.bl (zcY t n)) := by
 have hw := ze3 t (wb n) (by simp [wb]) hz
 have eb : T.tup ((wb n).map prT) = .tup [.tup [.int 0, .int ((n : Int) - 1)], .tup [.int 0, .int ((n : Int) - 1)], .tup [.int (-12), .int 12], .tup [.int (-12), .int 12]] := rfl
 rw [eb] at hw
 cases t with
 | tup ts =>
  have hz' := hz ts rfl
  unfold zcI zfl zcY
  simp only [ziC] at hw
  by_cases ha : (ts.all fun r => zc1 r (wb n)) = true
  ·obtain ⟨rs, rfl, hr⟩ := zeD ha
   have hl : rs.length <= 16777216 := by simpa using hz'
   have hc1 : ∀ a b c d, zep [some (.im (.tup (rs.map zaV))), a, b, c, d] = some (.lst ((rs.map fst).map T.int)) := fun a b c d => by
    unfold zep
    rw [List.map_map]
    refine zcS zaV _ rs ?_ hl fun p hp => ?_
    ·simp
    ·have h4 : p.length = 4 := (hr p hp).2.1
     obtain ⟨a, b, c, d, rfl⟩ := znV h4
     simp [lcE, zaV, fst]
   have hc2 : ∀ (ns : List Int) a c d, zeo [a, some (.im (.int n)), c, d, some (.im (.lst (ns.map T.int)))] = some (.lst ((List.range n).map fun (k : Nat) => T.bl (ns.any fun i => decide (i = (k : Int))))) := fun ns a c d => by
    unfold zeo
    refine zcS (fun k : Nat => T.int (0 + (k : Int))) _ (List.range n) ?_ (by simp; omega) fun k hk => ?_
    ·simp [zd3 n (by omega)]
    ·have e := zlP (k : Int) ns
     simp [lcE, inS, dep, zga, e, -List.any_map]
   have hup := zhp rs hl
   dsimp only
   rw [zcc]
   generalize hns : rs.map fst = ns at *
   simp only [ha, Bool.true_and]
   by_cases h24 : rs.length <= 24
   ·have e : (rs.length : Int) <= 24 := by omega
    cases hu : upR rs <;> simp [hw, ha, hc1, hc2, hup, zb4, zc5, h24, e, hu]
   ·have e : ¬ (rs.length : Int) <= 24 := by omega
    simp [hw, ha, hc1, hc2, hup, h24, e]
  ·have ha' : (ts.all fun r => zc1 r (wb n)) = false := by simpa using ha
   simp [hw, ha']
 | _ => simp [zcI, zfl, zcY, ziC] at hw ⊢ <;> simp [hw]
end K01
namespace K01
open PySem L2 L3 L5
noncomputable def keeps (os : List T) (p : Int) : Bool := match os[p.toNat]? with
 | some (.str x) => x == "keeper"
 | _ => false
noncomputable def zbr (t : T) (os : List T) : Bool := match t with
 | .tup ts => (ts.all fun r => zc1 r (sb os.length)) && (upN ((ts.map rowOf).map fst) && ((ts.map rowOf).map fst).all (keeps os))
 | _ => false
theorem eq_str (x y : Str) (neg : Bool) : eqS neg (.str x) (.str y) = some (.bl (cond neg (!(x == y)) (x == y))) := by
 simp [eqS, dep, eqT]
theorem zli {os : List T} {p : Int} (h0 : 0 <= p) (h1 : p < os.length) (ho : os.all zhS = true) (k : Str) : ∃ x : Str, L2.atI os p = some (.str x) /\ os[p.toNat]? = some (.str x) := by
 have hl : p.toNat < os.length := by omega
 have e : os[p.toNat]? = some os[p.toNat] := List.getElem?_eq_getElem hl
 have ha : L2.atI os p = some os[p.toNat] := by
  have := zck (k := p.toNat) e
  rw [Int.toNat_of_nonneg h0] at this
  exact this
 have hw := List.all_eq_true.mp ho os[p.toNat] (List.getElem_mem hl)
 generalize hq : os[p.toNat] = q at *
 cases q with
 | str x => exact ⟨x, ha, e⟩
 | _ => simp [zhS, znq] at hw
theorem zm8 (t : T) (os : List T) (ho : os.all zhS = true) (hl8 : os.length <= 8) (hz : szT t) : zbQ [t, .tup os] = some (.bl (zbr t os)) := by
 have hw := ze3 t (sb os.length) (by simp [sb]) hz
 have eb : T.tup ((sb os.length).map prT) = .tup [.tup [.int 0, .int ((os.length : Int) - 1)], .tup [.int 0, .int 1], .tup [.int 1, .int 12], .tup [.int 0, .int 12]] := rfl
 rw [eb] at hw
 cases t with
 | tup ts =>
  have hz' := hz ts rfl
  unfold zbQ zdY zbr
  simp only [ziC] at hw
  by_cases ha : (ts.all fun r => zc1 r (sb os.length)) = true
  ·obtain ⟨rs, rfl, hr⟩ := zeD ha
   have hl : rs.length <= 16777216 := by simpa using hz'
   have hc1 : ∀ a b, zdy [some (.im (.tup (rs.map zaV))), a, b] = some (.lst ((rs.map fst).map T.int)) := fun a b => by
    unfold zdy
    rw [List.map_map]
    refine zcS zaV _ rs ?_ hl fun p hp => ?_
    ·simp
    ·obtain ⟨a, b, c, d, rfl⟩ := znV (show p.length = 4 from (hr p hp).2.1)
     simp [lcE, zaV, fst]
   have hc2 : ∀ b, zdw [some (.im (.tup (rs.map zaV))), some (.im (.tup os)), b] = some (.lst (rs.map fun r => T.bl (keeps os (fst r)))) := fun b => by
    unfold zdw
    refine zcS zaV _ rs ?_ hl fun p hp => ?_
    ·simp
    ·have hb := (hr p hp).2.2 0
     obtain ⟨a, b, c, d, rfl⟩ := znV (show p.length = 4 from (hr p hp).2.1)
     have hb' := hb a (0, (os.length : Int) - 1) rfl rfl
     obtain ⟨x, x1, x2⟩ := zli (os := os) (p := a) hb'.1 (by have := hb'.2; simp at this; omega) ho "keeper"
     have e1 : keeps os a = (x == "keeper") := by unfold keeps; rw [x2]
     have e2 : fst [a, b, c, d] = a := rfl
     rw [e2, e1]
     generalize ("keeper" : Str) = kk
     simp [lcE, zaV, x1, eq_str]
   have hup := zhq (rs.map fst) (by simpa using hl)
   have hk : rs.all (fun r => keeps os (fst r)) = (rs.map fst).all (keeps os) := by rw [List.all_map]; rfl
   dsimp only
   rw [zcc]
   rw [<- hk]
   generalize hns : rs.map fst = ns at *
   simp only [ha, Bool.true_and]
   cases hu : upN ns <;> simp [hw, ha, hc1, hc2, hup, zb4, zc5, hu]
  ·have ha' : (ts.all fun r => zc1 r (sb os.length)) = false := by simpa using ha
   simp [hw, ha']
 | _ => simp [zbQ, zdY, zbr, ziC] at hw ⊢ <;> simp [hw]
noncomputable def zaD (t : T) : Bool := match t with
 | .tup [a, .tup os, c, d] => (zc1 a [(0, 12), (0, 12)] && zbw (.tup os)) && (zcY c os.length && zbr d os)
 | _ => false
def szF (t : T) : Prop := ∀ a b c d, t = .tup [a, b, c, d] -> szT c /\ szT d
theorem zge (t : T) (hz : szF t) : zaH [t] = some (.bl (zaD t)) := by
 have brims : ∀ a, zcV [a] = some (.bl (zc1 a [(0, 12), (0, 12)])) := fun a => by
  have h := zfu a [(0, 12), (0, 12)] (by simp)
  unfold zcV zgg
  simp [prT] at h ⊢
  simp [h]
 cases t with
 | tup ts =>
  match ts, hz with
  | [a, b, c, d], hz =>
   obtain ⟨zc, zd⟩ := hz a b c d rfl
   unfold zaH zbS
   cases hb : zc1 a [(0, 12), (0, 12)] with
   | false =>
    have e : zaD (.tup [a, b, c, d]) = false := by
     unfold zaD
     cases b <;> simp [hb]
    simp [isT, eq_int, brims, hb, e]
   | true =>
    cases hw : zbw b with
    | false =>
     have e : zaD (.tup [a, b, c, d]) = false := by
      unfold zaD
      cases b <;> simp [hb, hw]
     simp [isT, eq_int, brims, hb, zjv, hw, e]
    | true =>
     cases b with
     | tup os =>
      have hw' := hw
      simp only [zbw, Bool.and_eq_true, decide_eq_true_eq] at hw'
      have e1 := zqV c os.length (by omega) zc
      have e2 := zm8 d os hw'.2 hw'.1.2 zd
      unfold zaD
      cases hv : zcY c os.length <;> simp [isT, eq_int, brims, hb, zjv, hw, e1, e2, hv]
     | _ => simp [zbw] at hw
  | [], _ => simp [zaH, zbS, isT, eq_int, zaD]
  | [_], _ => simp [zaH, zbS, isT, eq_int, zaD]
  | [_, _], _ => simp [zaH, zbS, isT, eq_int, zaD]
  | [_, _, _], _ => simp [zaH, zbS, isT, eq_int, zaD]
  | _ :: _ :: _ :: _ :: _ :: l, _ =>
   have h : ¬ ((l.length : Int) + 1 + 1 + 1 + 1 + 1 = 4) := by omega
   simp [zaH, zbS, isT, eq_int, zaD, h]
 | _ => simp [zaH, zbS, isT, zaD]
end K01
namespace K01
open PySem L2 L3 L5
theorem zmh (x y z v : T) (p q r s : Int × Int) : zc1 (.tup [x, y, z, v]) [p, q, r, s] = (wh x p.1 p.2 && (wh y q.1 q.2 && (wh z r.1 r.2 && wh v s.1 s.2))) := by simp [zc1]
theorem znU (x y : T) (p q : Int × Int) : zc1 (.tup [x, y]) [p, q] = (wh x p.1 p.2 && wh y q.1 q.2) := by simp [zc1]
theorem zgP {t : T} {bs : List (Int × Int)} (h : tl t bs.length = false) : zc1 t bs = false := by
 cases t with
 | tup ts => simp only [tl, decide_eq_false_iff_not] at h; simp [zc1, h]
 | _ => rfl
theorem tl4 {t : T} (h : tl t 4 = true) : ∃ x y z v, t = .tup [x, y, z, v] := by
 cases t with
 | tup ts =>
  simp only [tl, decide_eq_true_eq] at h
  match ts, h with
  | [x, y, z, v], _ => exact ⟨x, y, z, v, rfl⟩
 | _ => simp [tl] at h
theorem tl2 {t : T} (h : tl t 2 = true) : ∃ x y, t = .tup [x, y] := by
 cases t with
 | tup ts =>
  simp only [tl, decide_eq_true_eq] at h
  match ts, h with
  | [x, y], _ => exact ⟨x, y, rfl⟩
 | _ => simp [tl] at h
theorem zkh (t : T) (n : Nat) : zbH [t, .int n] = some (.bl (zc1 t (wb n))) := by
 unfold zbH zeh
 have hr : zbe [t, .int 4] = some (.bl (tl t 4)) := zm9 t 4
 cases h : tl t 4 with
 | false =>
  rw [zgP (bs := wb n) h]
  simp [hr, h]
 | true =>
  obtain ⟨x, y, z, v, rfl⟩ := tl4 h
  unfold wb
  rw [zmh]
  cases h1 : wh x 0 ((n : Int) - 1) <;> cases h2 : wh y 0 ((n : Int) - 1) <;> cases h3 : wh z (-12) 12 <;> simp [hr, h, zbg, h1, h2, h3]
noncomputable def zfM (t : T) (os : List T) : Bool := zc1 t (sb os.length) && keeps os (fst (rowOf t))
theorem zis (t : T) (os : List T) (ho : os.all zhS = true) : zbu [t, .tup os] = some (.bl (zfM t os)) := by
 unfold zbu zdJ zfM
 have hr : zbe [t, .int 4] = some (.bl (tl t 4)) := zm9 t 4
 cases h : tl t 4 with
 | false =>
  rw [zgP (bs := sb os.length) h]
  simp [hr, h]
 | true =>
  obtain ⟨x, y, z, v, rfl⟩ := tl4 h
  unfold sb
  rw [zmh]
  cases h1 : wh x 0 ((os.length : Int) - 1) with
  | false => simp [hr, h, zbg, h1]
  | true =>
   cases x with
   | int p =>
    have hb := h1
    simp only [wh, Bool.and_eq_true, decide_eq_true_eq] at hb
    obtain ⟨s, s1, s2⟩ := zli (os := os) (p := p) hb.1 (by omega) ho "keeper"
    have e1 : keeps os p = (s == "keeper") := by unfold keeps; rw [s2]
    generalize ("keeper" : Str) = kk at e1 ⊢
    cases h2 : wh y 0 1 with
    | false => cases hk : (s == kk) <;> simp [hr, h, zbg, h1, h2, s1, eq_str, hk]
    | true =>
     cases h3 : wh z 1 12 with
     | false => cases hk : (s == kk) <;> simp [hr, h, zbg, h1, h2, h3, s1, eq_str, hk]
     | true =>
      cases h4 : wh v 0 12 with
      | false => cases hk : (s == kk) <;> simp [hr, h, zbg, h1, h2, h3, h4, s1, eq_str, hk]
      | true =>
       have e2 : fst (rowOf (.tup [T.int p, y, z, v])) = p := by
        cases y with
        | int y' => cases z with
         | int z' => cases v with
          | int v' => rfl
          | _ => simp [wh] at h4
         | _ => simp [wh] at h3
        | _ => simp [wh] at h2
       rw [e2, e1]
       cases hk : (s == kk) <;> simp [hr, h, zbg, h1, h2, h3, h4, s1, eq_str, hk]
   | _ => simp [wh] at h1
theorem zhy : ∀ rs : List (List Int), upR rs = (List.range (rs.length - 1)).all fun k => HT.lexLt (rs.getD k []) (rs.getD (k + 1) [])
 | [] => rfl
 | [a] => rfl
 | a :: b :: l => by
  have ih := zhy (b :: l)
  rw [upR, ih]
  simp only [List.length_cons, Nat.add_sub_cancel]
  rw [List.range_succ_eq_map, List.all_cons, List.all_map]
  rfl
theorem zhz : ∀ ns : List Int, upN ns = (List.range (ns.length - 1)).all fun k => decide (ns.getD k 0 < ns.getD (k + 1) 0)
 | [] => rfl
 | [a] => rfl
 | a :: b :: l => by
  have ih := zhz (b :: l)
  rw [upN, ih]
  simp only [List.length_cons, Nat.add_sub_cancel]
  rw [List.range_succ_eq_map, List.all_cons, List.all_map]
  rfl
theorem zib : ∀ as bs : List Int, ziv (as.map T.int) (bs.map T.int) = decide (as = bs)
 | [], [] => by simp [ziv]
 | [], b :: bs => by simp [ziv]
 | a :: as, [] => by simp [ziv]
 | a :: as, b :: bs => by
  rw [List.map_cons, List.map_cons]
  simp only [ziv, znG, zib as bs]
  by_cases h : a = b <;> by_cases h' : as = bs <;> simp [h, h']
theorem zmP (as bs : List Int) : eqS false (.lst (as.map T.int)) (.lst (bs.map T.int)) = some (.bl (decide (as = bs))) := by
 simp [eqS, dep, zga, eqT, zib]
theorem zl8 (ns : List Int) (n : Nat) (h : ∀ i ∈ ns, 0 <= i /\ i < n) : decide (upI ns = (List.range n).map fun (k : Nat) => (k : Int)) = (List.range n).all fun (k : Nat) => ns.any fun i => decide (i = (k : Int)) := by
 rw [Bool.eq_iff_iff, decide_eq_true_eq, List.all_eq_true]
 constructor
 ·intro e k hk
  have hm : (k : Int) ∈ upI ns := by rw [e]; exact List.mem_map.mpr ⟨k, hk, rfl⟩
  exact List.any_eq_true.mpr ⟨k, zg6.mp hm, by simp⟩
 ·intro hc
  refine zhx ((zi2 ns).imp fun h e => by omega) ((zi2 ns).imp fun h => by omega) ?_ fun i => ?_
  ·rw [List.pairwise_map]
   exact List.pairwise_lt_range.imp fun h => by omega
  ·rw [zg6]
   constructor
   ·intro hi
    have := h i hi
    exact List.mem_map.mpr ⟨i.toNat, List.mem_range.mpr (by omega), by omega⟩
   ·intro hi
    obtain ⟨k, hk, rfl⟩ := List.mem_map.mp hi
    obtain ⟨x, hx, e⟩ := List.any_eq_true.mp (hc k hk)
    simp at e
    rw [<- e]; exact hx
end K01
namespace K01
open PySem L2 L3 L5
theorem zmx (k l : Str) (t : T) (ρ : Ev) (h : ρ[0]? = some (some (.im t))) : zgr (instS "str" (vrS 0)) (opS (inS false) (vrS 0) (zdE (zac (cS (.str k)) (zac (cS (.str l)) zaq)))) ρ = some (.bl (znq k l t)) := by
 cases t with
 | str x =>
  have e := znD x k l (.lst [.str k, .str l]) rfl
  simp [isT, h, e, znq]
 | _ => simp [h, znq, isT]
theorem zrR (os : List T) (hl : os.length <= 8) (a c : Option W) : zdx [a, some (.im (.tup os)), c] = some (.lst (os.map fun r => T.bl (zhS r))) := by
 unfold zdx
 refine zcS (fun r : T => r) _ os ?_ (by omega) fun p hp => ?_
 ·simp
 ·have e := zmx "keeper" "taker" p [some (.im p)] rfl
  have e2 : lcE [none] (nmG 0) zed (zgr (instS "str" (vrS 0)) (opS (inS false) (vrS 0) (zdE (zac (cS (.str "keeper")) (zac (cS (.str "taker")) zaq))))) [a, some (.im (.tup os)), c] p = (zgr (instS "str" (vrS 0)) (opS (inS false) (vrS 0) (zdE (zac (cS (.str "keeper")) (zac (cS (.str "taker")) zaq)))) [some (.im p)]).map some := by
   generalize zgr _ _ = f
   simp [lcE]
  rw [e2, e]; rfl
theorem zqT (x y v : T) (ws os : List T) (hl : ws.length <= 24) (c : Option W) : zdv [some (.im (.tup [x, y, .tup ws, v])), some (.im (.tup os)), c] = some (.lst (ws.map fun r => T.bl (zc1 r (wb os.length)))) := by
 unfold zdv
 refine zcS (fun r : T => r) _ ws ?_ (by omega) fun p hp => ?_
 ·simp
 ·simp [lcE, zkh]
theorem zm5 (x y v : T) (ss os : List T) (hl : ss.length <= 16777216) (ho : os.all zhS = true) (c : Option W) : zdu [some (.im (.tup [x, y, v, .tup ss])), some (.im (.tup os)), c] = some (.lst (ss.map fun r => T.bl (zfM r os))) := by
 unfold zdu
 refine zcS (fun r : T => r) _ ss ?_ hl fun p hp => ?_
 ·simp
 ·simp [lcE, zis _ _ ho]
theorem znK {α : Type} (p : α -> Bool) (l : List α) : l.any (fun x => !p x) = !l.all p := by
 rw [List.not_all_eq_any_not]
theorem zhl {α : Type} (enc : List Int -> α) (rs : List (List Int)) (k : Nat) (h : k < rs.length) : L2.atI (rs.map enc) (k : Int) = some (enc (rs.getD k [])) := zck (by simp [h])
theorem zo0 (x y v : T) (rs : List (List Int)) (hl : rs.length <= 24) (b : Option W) :
  zhg [2] (itA zjH (zac (cS (.int 1)) (zac (cbS zdK (zac (opS ixS (vrS 0) (cS (.int 2))) zaq)) zaq))) (nmG 2) zbE [some (.im (.tup [x, y, .tup (rs.map zaV), v])), b, none]
   = some (if upR rs = true then .nx [some (.im (.tup [x, y, .tup (rs.map zaV), v])), b, none] else .rt (.bl false)) := by
 have hr := zgQ 1 rs.length (by omega) (by omega)
 have h := zg8 (is := [2]) (g := nmG 2) (b := zbE) (fun k : Nat => T.int (((1 : Nat) : Int) + (k : Int))) (fun k => !HT.lexLt (rs.getD k []) (rs.getD (k + 1) [])) (.bl false) [some (.im (.tup [x, y, .tup (rs.map zaV), v])), b, none] (List.range (rs.length - 1)) [some (.im (.tup [x, y, .tup (rs.map zaV), v])), b, none] rfl (by
  intro k hk
  have hk' : k < rs.length - 1 := by simpa using hk
  have i1 := zhl zaV rs k (by omega)
  have i2 := zhl zaV rs (k + 1) (by omega)
  have c1 : (1 : Int) + (k : Int) - 1 = (k : Int) := by omega
  have c2 : (1 : Int) + (k : Int) = ((k + 1 : Nat) : Int) := by omega
  have l : ltS (zaV (rs.getD k [])) (zaV (rs.getD (k + 1) [])) = some (.bl (HT.lexLt (rs.getD k []) (rs.getD (k + 1) []))) := by simp [ltS, zaV, zdU]
  refine ⟨[some (.im (.tup [x, y, .tup (rs.map zaV), v])), b, some (.im (.int (1 + (k : Int))))], rfl, ?_⟩
  unfold turn zbE
  generalize rs.getD k [] = r1 at *
  generalize rs.getD (k + 1) [] = r2 at *
  cases hq : HT.lexLt r1 r2
  ·simp [c1, i1]
   rw [c2, i2]
   simp [l, hq]
  ·simp [c1, i1]
   rw [c2, i2]
   simp [l, hq])
 simp only [zhg, itA, zac, cS, cbS, opS, vrS, zaq]
 have e : (rs.map zaV).length = rs.length := List.length_map ..
 simp [e]
 have hr' : zjH [T.int 1, T.int (rs.length : Int)] = _ := hr
 rw [hr', Option.bind_some, h, znK, <- zhy]
 cases upR rs <;> simp
theorem zoZ (x y v : T) (rs : List (List Int)) (hl : rs.length <= 16777216) (h8 : rs.length <= 100000) (h4 : ∀ r ∈ rs, r.length = 4) (b : Option W) :
  zhg [2] (itA zjH (zac (cS (.int 1)) (zac (cbS zdK (zac (opS ixS (vrS 0) (cS (.int 3))) zaq)) zaq))) (nmG 2) zb5 [some (.im (.tup [x, y, v, .tup (rs.map zaV)])), b, none]
   = some (if upN (rs.map fst) = true then .nx [some (.im (.tup [x, y, v, .tup (rs.map zaV)])), b, none] else .rt (.bl false)) := by
 have hr := zgQ 1 rs.length (by omega) h8
 have h := zg8 (is := [2]) (g := nmG 2) (b := zb5) (fun k : Nat => T.int (((1 : Nat) : Int) + (k : Int))) (fun k => !decide ((rs.map fst).getD k 0 < (rs.map fst).getD (k + 1) 0)) (.bl false) [some (.im (.tup [x, y, v, .tup (rs.map zaV)])), b, none] (List.range (rs.length - 1)) [some (.im (.tup [x, y, v, .tup (rs.map zaV)])), b, none] rfl (by
  intro k hk
  have hk' : k < rs.length - 1 := by simpa using hk
  have i1 := zhl zaV rs k (by omega)
  have i2 := zhl zaV rs (k + 1) (by omega)
  have c1 : (1 : Int) + (k : Int) - 1 = (k : Int) := by omega
  have c2 : (1 : Int) + (k : Int) = ((k + 1 : Nat) : Int) := by omega
  have f1 : (rs.map fst).getD k 0 = fst (rs.getD k []) := by simp [show k < rs.length by omega]
  have f2 : (rs.map fst).getD (k + 1) 0 = fst (rs.getD (k + 1) []) := by simp [show k + 1 < rs.length by omega]
  have m1 : (rs.getD k []).length = 4 := h4 _ (by simp [show k < rs.length by omega])
  have m2 : (rs.getD (k + 1) []).length = 4 := h4 _ (by simp [show k + 1 < rs.length by omega])
  refine ⟨[some (.im (.tup [x, y, v, .tup (rs.map zaV)])), b, some (.im (.int (1 + (k : Int))))], rfl, ?_⟩
  unfold turn zb5
  rw [f1, f2]
  generalize rs.getD k [] = r1 at *
  generalize rs.getD (k + 1) [] = r2 at *
  obtain ⟨p1, p2, p3, p4, rfl⟩ := znV m1
  obtain ⟨q1, q2, q3, q4, rfl⟩ := znV m2
  by_cases hq : p1 < q1
  ·simp [c1, i1]
   rw [c2, i2]
   simp [zaV, ltS, fst, hq]
  ·simp [c1, i1]
   rw [c2, i2]
   simp [zaV, ltS, fst, hq])
 simp only [zhg, itA, zac, cS, cbS, opS, vrS, zaq]
 have e : (rs.map zaV).length = rs.length := List.length_map ..
 simp [e]
 have hr' : zjH [T.int 1, T.int (rs.length : Int)] = _ := hr
 rw [hr', Option.bind_some, h, znK]
 have e2 := zhz (rs.map fst)
 rw [List.length_map] at e2
 rw [<- e2]
 cases upN (rs.map fst) <;> simp
theorem zm4 (x y v : T) (rs : List (List Int)) (hl : rs.length <= 24) (h4 : ∀ r ∈ rs, r.length = 4) (b c : Option W) : zcy [some (.im (.tup [x, y, .tup (rs.map zaV), v])), b, c] = some (.lst ((rs.map fst).map T.int)) := by
 unfold zcy
 rw [List.map_map]
 refine zcS zaV _ rs ?_ (by omega) fun p hp => ?_
 ·simp
 ·obtain ⟨a, b, c, d, rfl⟩ := znV (h4 p hp)
  simp [lcE, zaV, fst]
end K01
namespace K01
open PySem L2 L3 L5
def szJ (t : T) : Prop := ∀ a b c d, t = .tup [a, b, c, d] -> (∀ ts, zhF c = some ts -> ts.length <= 100000) /\ ∀ ts, zhF d = some ts -> ts.length <= 100000
theorem szJ.f {t : T} (h : szJ t) : szF t := fun a b c d e => ⟨fun ts q => Nat.le_trans ((h a b c d e).1 ts q) (by decide), fun ts q => Nat.le_trans ((h a b c d e).2 ts q) (by decide)⟩
noncomputable def znP : Sm := zbn (zhg [2] (itA zjH (zac (cS (.int 1)) (zac (cbS zdK (zac (opS ixS (vrS 0) (cS (.int 2))) zaq)) zaq))) (nmG 2) zbE)
 (zbn (zhg [2] (itA zjH (zac (cS (.int 1)) (zac (cbS zdK (zac (opS ixS (vrS 0) (cS (.int 3))) zaq)) zaq))) (nmG 2) zb5)
 (retS (opS (eqS false) (cbS zdn (zac zcy zaq)) (cbS zf1 (zac (cbS zdK (zac (vrS 1) zaq)) zaq)))))
theorem zqU (x : T) (os : List T) (rs qs : List (List Int)) (r24 : rs.length <= 24) (q24 : qs.length <= 100000) (f4 : ∀ r ∈ rs, r.length = 4) (g4 : ∀ r ∈ qs, r.length = 4) (h8 : os.length <= 8) :
  znP [some (.im (.tup [x, .tup os, .tup (rs.map zaV), .tup (qs.map zaV)])), some (.im (.tup os)), none] = some (.rt (.bl (upR rs && (upN (qs.map fst) && decide (upI (rs.map fst) = (List.range os.length).map fun (k : Nat) => (k : Int)))))) := by
 have L1 := zo0 x (.tup os) (.tup (qs.map zaV)) rs r24 (some (.im (.tup os)))
 have L2 := zoZ x (.tup os) (.tup (rs.map zaV)) qs (by omega) q24 g4 (some (.im (.tup os)))
 have st := zm4 x (.tup os) (.tup (qs.map zaV)) rs r24 f4 (some (.im (.tup os))) none
 unfold znP
 show Option.bind (zhg _ _ _ _ _) _ = _
 rw [L1]
 cases upR rs with
 | false => rfl
 | true =>
  show Option.bind (zhg _ _ _ _ _) _ = _
  rw [L2]
  cases upN (qs.map fst) with
  | false => rfl
  | true =>
   have e := zmP (upI (rs.map fst)) ((List.range os.length).map fun (k : Nat) => (k : Int))
   rw [List.map_map] at e
   have er : rangeT 0 os.length = (List.range os.length).map (T.int ∘ fun (k : Nat) => (k : Int)) := by
    unfold rangeT
    exact List.map_congr_left fun k _ => by simp
   rw [<- er] at e
   have ei := zdU (rs.map fst)
   have l64 : (rs.map fst).length < 64 := by rw [List.length_map]; omega
   generalize hns : rs.map fst = ns at *
   have k0 : (os.length : Int) <= 16777216 := by omega
   simp only [Bool.true_and]
   simp [st, zdn, ei, l64, zf1, k0, e]
set_option maxHeartbeats 4000000 in
theorem zjw (t : T) (hz : szJ t) : zbB [t] = some (.bl (zaD t)) := by
 have r4 : zbe [t, .int 4] = some (.bl (tl t 4)) := zm9 t 4
 unfold zbB zfw
 cases h4 : tl t 4 with
 | false =>
  have e : zaD t = false := by
   unfold zaD
   split
   ·simp [tl] at h4
   ·rfl
  simp [r4, h4, e]
 | true =>
  obtain ⟨a, b, c, d, rfl⟩ := tl4 h4
  have r2 : zbe [a, .int 2] = some (.bl (tl a 2)) := zm9 a 2
  obtain ⟨zc, zd⟩ := hz a b c d rfl
  cases h2 : tl a 2 with
  | false =>
   have e : zaD (.tup [a, b, c, d]) = false := by
    have := zgP (t := a) (bs := [(0, 12), (0, 12)]) h2
    unfold zaD
    cases b <;> simp [this]
   simp [r4, h4, r2, h2, e]
  | true =>
   obtain ⟨x, y, rfl⟩ := tl2 h2
   cases hx : wh x 0 12 with
   | false =>
    have e : zaD (.tup [.tup [x, y], b, c, d]) = false := by
     unfold zaD
     cases b <;> simp [znU, hx]
    simp [r4, h4, r2, h2, zbg, hx, e]
   | true =>
    cases hy : wh y 0 12 with
    | false =>
     have e : zaD (.tup [.tup [x, y], b, c, d]) = false := by
      unfold zaD
      cases b <;> simp [znU, hx, hy]
     simp [r4, h4, r2, h2, zbg, hx, hy, e]
    | true =>
     cases b with
     | tup os =>
      have eF : zaD (.tup [.tup [x, y], .tup os, c, d]) = (zbw (.tup os) && (zcY c os.length && zbr d os)) := by
       unfold zaD
       simp [znU, hx, hy]
      rw [eF]
      by_cases l1 : 1 <= os.length
      ·by_cases l8 : os.length <= 8
       ·have k1 : ¬ (os.length : Int) < 1 := by omega
        have k8 : ¬ (8 : Int) < (os.length : Int) := by omega
        have jo := zrR os l8
        cases ho : os.all zhS with
        | false =>
         simp [r4, h4, r2, h2, zbg, hx, hy, isT, ltS, k1, k8, jo, zb4, zc5, ho, zbw]
        | true =>
         have eo : zbw (.tup os) = true := by simp [zbw, l1, l8, ho]
         rw [eo, Bool.true_and]
         cases c with
         | tup ws =>
          cases d with
          | tup ss =>
           have zw := zc ws rfl
           have zs := zd ss rfl
           by_cases l24 : ws.length <= 24
           ·have k24 : ¬ (24 : Int) < (ws.length : Int) := by omega
            have jw := zqT (.tup [x, y]) (.tup os) (.tup ss) ws os l24
            have js := zm5 (.tup [x, y]) (.tup os) (.tup ws) ss os (by omega) ho
            cases hw : ws.all (fun r => zc1 r (wb os.length)) with
            | false =>
             simp [r4, h4, r2, h2, zbg, hx, hy, isT, ltS, k1, k8, jo, zb4, zc5, ho, k24, jw, hw, zcY]
            | true =>
             have es : ss.all (fun r => zfM r os) = (ss.all (fun r => zc1 r (sb os.length)) && ((ss.map rowOf).map fst).all (keeps os)) := by
              have : ∀ l : List T, l.all (fun r => zfM r os) = (l.all (fun r => zc1 r (sb os.length)) && ((l.map rowOf).map fst).all (keeps os)) := by
               intro l
               induction l with
               | nil => rfl
               | cons q l ih =>
                have eq : zfM q os = (zc1 q (sb os.length) && keeps os (fst (rowOf q))) := rfl
                rw [List.all_cons, List.all_cons, List.map_cons, List.map_cons, List.all_cons, ih, eq]
                generalize l.all (fun r => zc1 r (sb os.length)) = u
                generalize ((l.map rowOf).map fst).all (keeps os) = v
                cases zc1 q (sb os.length) <;> cases keeps os (fst (rowOf q)) <;> cases u <;> cases v <;> rfl
              exact this ss
             cases hs : ss.all (fun r => zfM r os) with
             | false =>
              have eW : (zcY (.tup ws) os.length && zbr (.tup ss) os) = false := by
               rw [hs] at es
               simp only [zbr]
               cases q1 : ss.all (fun r => zc1 r (sb os.length)) with
               | false => simp
               | true =>
                rw [q1, Bool.true_and] at es
                rw [<- es]; simp
              rw [eW]
              simp [r4, h4, r2, h2, zbg, hx, hy, isT, ltS, k1, k8, jo, zb4, zc5, ho, k24, jw, hw, js, hs]
             | true =>
              rw [hs] at es
              obtain ⟨es1, es2⟩ := (Bool.and_eq_true _ _ ▸ es.symm : _ /\ _)
              obtain ⟨rs, hrs, hr⟩ := zeD hw
              obtain ⟨qs, hqs, hq⟩ := zeD es1
              have r24 : rs.length <= 24 := by rw [hrs] at l24; simpa using l24
              have q24 : qs.length <= 100000 := by rw [hqs] at zs; simpa using zs
              have f4 : ∀ r ∈ rs, r.length = 4 := fun r h => (hr r h).2.1
              have g4 : ∀ r ∈ qs, r.length = 4 := fun r h => (hq r h).2.1
              have eW : (zcY (.tup ws) os.length && zbr (.tup ss) os) = (upR rs && (upN (qs.map fst) && (List.range os.length).all fun (k : Nat) => (rs.map fst).any fun i => decide (i = (k : Int)))) := by
               have er : ws.map rowOf = rs := by rw [hrs]; exact zcc rs
               have eq : ss.map rowOf = qs := by rw [hqs]; exact zcc qs
               rw [eq] at es2
               simp only [zcY, zbr, er, eq, hw, es1, es2, Bool.true_and, Bool.and_true, l24, decide_true]
               generalize ((List.range os.length).all fun (k : Nat) => (rs.map fst).any fun i => decide (i = (k : Int))) = u
               cases upR rs <;> cases upN (qs.map fst) <;> cases u <;> rfl
              rw [eW]
              have cov := zl8 (rs.map fst) os.length (fun i hi => by
               obtain ⟨r, h, rfl⟩ := List.mem_map.mp hi
               obtain ⟨p1, p2, p3, p4, rfl⟩ := znV (f4 r h)
               have := (hr _ h).2.2 0 p1 (0, (os.length : Int) - 1) rfl rfl
               exact ⟨this.1, by show p1 < _; have := this.2; simp at this; omega⟩)
              rw [<- cov]
              have tail := zqU (.tup [x, y]) os rs qs r24 q24 f4 g4 (by omega)
              rw [<- hrs, <- hqs] at tail
              unfold znP at tail
              generalize (zbn (zhg [2] (itA zjH (zac (cS (.int 1)) (zac (cbS zdK (zac (opS ixS (vrS 0) (cS (.int 2))) zaq)) zaq))) (nmG 2) zbE) _) = TL at tail ⊢
              generalize decide (upI (rs.map fst) = (List.range os.length).map fun (k : Nat) => (k : Int)) = u at tail ⊢
              simp [r4, h4, r2, h2, zbg, hx, hy, isT, ltS, k1, k8, jo, zb4, zc5, ho, k24, jw, hw, js, hs, tail]
           ·have k24 : (24 : Int) < (ws.length : Int) := by omega
            have eW : zcY (.tup ws) os.length = false := by simp [zcY, l24]
            simp [r4, h4, r2, h2, zbg, hx, hy, isT, ltS, k1, k8, jo, zb4, zc5, ho, k24, eW]
          | _ => simp [r4, h4, r2, h2, zbg, hx, hy, isT, ltS, k1, k8, jo, zb4, zc5, ho, zbr]
         | _ => simp [r4, h4, r2, h2, zbg, hx, hy, isT, ltS, k1, k8, jo, zb4, zc5, ho, zcY]
       ·have k8 : (8 : Int) < (os.length : Int) := by omega
        have k1 : ¬ (os.length : Int) < 1 := by omega
        simp [r4, h4, r2, h2, zbg, hx, hy, isT, ltS, k1, k8, zbw, l8]
      ·have k1 : (os.length : Int) < 1 := by omega
       simp [r4, h4, r2, h2, zbg, hx, hy, isT, ltS, k1, zbw, l1]
     | _ =>
      rw [show zaD _ = false from rfl]
      simp [r4, h4, r2, h2, zbg, hx, hy, isT]
end K01
namespace K01
open PySem L2 L3 L5
noncomputable def zoP (m : Int) (ns : List Int) (k : Nat) : Int := if k < ns.length then ns.getD k 0 % m else 0
noncomputable def zsa (m a b c d e : T) : Sm :=
 (zbn (zdH 2 (cS (.int 0)))
 (zbn (ifS (zfx (opS ltS (vrS 1) (cbS zdK (zac (vrS 0) zaq)))) (zdH 2 (opS zcX (opS ixS (vrS 0) (vrS 1)) (opS zpE (cS (.int 2)) (cS m)))) zbG)
 (retS (opS zbT (opS zcX (opS zc8 (opS zc8 (opS zd6 (vrS 2) (cS a)) (opS zd6 (opS zd6 (cS b) (vrS 1)) (vrS 1))) (opS zd6 (cS c) (vrS 1))) (cS d)) (cS e)))))
theorem zov (m a b c d e : Int) (ns : List Int) (k : Nat) (hp : znL 2 m) (hm : 0 < (2 : Int) ^ m.toNat) (h1 : ∀ i, ziZ i a) (h2 : ∀ i, ziZ b i) (h3 : ∀ i, ziZ i (k : Int)) (h4 : ∀ i, ziZ c i) (h5 : 0 < d) (h6 : zeq 0 e) :
  zgh (zsa (.int m) (.int a) (.int b) (.int c) (.int d) (.int e) [some (.im (zdL ns)), some (.im (.int k)), none]) = some (.int ((zoP (2 ^ m.toNat) ns k * a + b * (k : Int) * (k : Int) + c * (k : Int)) % d / e)) := by
 have h6' : ∀ i, zeq i e := fun i => h6
 unfold zsa zdL zoP
 by_cases h : k < ns.length
 ·have q : L2.atI (ns.map T.int) (k : Int) = some (.int (ns.getD k 0)) := zck (by simp [h])
  have h' : (k : Int) < (ns.length : Int) := by omega
  simp [h, h', q, ltS, hp, hm, zd6, h1, h2, h3, h4, h5, h6', zgh]
 ·have h' : ¬ (k : Int) < (ns.length : Int) := by omega
  simp [h, h', ltS, zd6, h1, h2, h3, h4, h5, h6', zgh]
noncomputable def mixed (ns : List Int) (k : Nat) : Int := (zoP (2 ^ (64 : Int).toNat) ns k * 46337 + 2741 * (k : Int) * (k : Int) + 59 * (k : Int)) % 2147483629 / 2
theorem half_lt (x d : Int) (h : 0 < d) : 0 <= x % d / 2 /\ x % d / 2 < d := by
 have h1 := Int.emod_nonneg x (b := d) (by omega)
 have h2 := Int.emod_lt_of_pos x h
 omega
theorem zfZ (ns : List Int) (k : Nat) : 0 <= mixed ns k /\ mixed ns k < 2147483629 := half_lt _ _ (by decide)
theorem zgd (ns : List Int) (k : Nat) (hk : k <= 1000) : zaS [zdL ns, .int (k : Int)] = some (.int (mixed ns k)) :=
 zov 64 46337 2741 59 2147483629 2 ns k ⟨by decide, by decide, by decide⟩ (by decide) (fun i => .inr ⟨by decide, by decide⟩) (fun i => .inl ⟨by decide, by decide⟩) (fun i => .inr ⟨by omega, by omega⟩) (fun i => .inl ⟨by decide, by decide⟩) (by decide) ⟨by decide, by decide⟩
end K01
namespace K01
open PySem L2 L3 L5
def zix (n : Nat) (r : List Int) : Prop := ∃ a b c d : Int, r = [a, b, c, d] /\ (0 <= a /\ a < n) /\ (0 <= b /\ b < n) /\ (-12 <= c /\ c <= 12) /\ (-12 <= d /\ d <= 12)
theorem zsl (x s : Int) (h1 : 1 <= s) (h2 : s <= 12) : -12 <= x % (2 * s + 1) - s /\ x % (2 * s + 1) - s <= 12 := by
 have a := Int.emod_nonneg x (b := 2 * s + 1) (by omega)
 have b := Int.emod_lt_of_pos x (b := 2 * s + 1) (by omega)
 omega
theorem two (x : Int) : x % 2 = 0 \/ x % 2 = 1 := by omega
theorem zl7 (ns : List Int) (at' many k : Nat) (more span : Int) (rows : List T) (ha : at' + k <= 1000) (hm : 1 <= many) (hs1 : 1 <= span) (hs2 : span <= 12) (hl : rows.length <= 1000) :
  ∃ a b c d m : Int, zix many [a, b, c, d] /\ (k < many -> a = k) /\ turn (nmG 6) zcU (.int (0 + (k : Int))) [some (.im (zdL ns)), some (.im (.int at')), some (.im (.int many)), some (.im (.int more)), some (.im (.int span)), some (.own (.lst rows)), none, none, none, none] =
   some (.nx [some (.im (zdL ns)), some (.im (.int at')), some (.im (.int many)), some (.im (.int more)), some (.im (.int span)), some (.own (.lst (rows ++ [zaV [a, b, c, d]]))), some (.im (.int (0 + (k : Int)))), some (.im (.int m)), some (.im (.int a)), some (.own (.lst [.int c, .int d]))]) := by
 have hmx := zgd ns (at' + k) ha
 have hca : ((at' : Int) + (k : Int)) = ((at' + k : Nat) : Int) := by omega
 obtain ⟨m0, _⟩ := zfZ ns (at' + k)
 generalize mixed ns (at' + k) = m at *
 have pm : (0 : Int) < many := by omega
 have pN : 0 < many := hm
 have ps : 0 < 2 * span + 1 := by omega
 have cm : ziZ 2 span := .inl ⟨by decide, by decide⟩
 have e1 := Int.emod_nonneg m (b := (many : Int)) (by omega)
 have e2 := Int.emod_lt_of_pos m pm
 have e3 := Int.emod_nonneg (m / 8) (b := (many : Int)) (by omega)
 have e4 := Int.emod_lt_of_pos (m / 8) pm
 have c1 := zsl (m / 64) span hs1 hs2
 have c2 := zsl (m / 2048) span hs1 hs2
 have hl' : rows.length < 16777216 := by omega
 have d64 : zeq m 64 := ⟨by decide, by decide⟩
 have d2048 : zeq m 2048 := ⟨by decide, by decide⟩
 have d65536 : zeq m 65536 := ⟨by decide, by decide⟩
 have d327680 : zeq m 327680 := ⟨by decide, by decide⟩
 have d8 : zeq m 8 := ⟨by decide, by decide⟩
 have z2 : ixN 2 0 = some 0 := rfl
 have o2 : ixN 2 1 = some 1 := rfl
 have cc : (0 : Int) + (k : Int) = (k : Int) := by omega
 rw [hca.symm] at hmx
 have st : ∃ a : Int, (0 <= a /\ a < many) /\ (k < many -> a = k) /\ (if (k : Int) < (many : Int) then (k : Int) else m % many) = a := by
  by_cases hk : k < many
  ·exact ⟨k, by omega, fun _ => rfl, by rw [if_pos (by omega)]⟩
  ·exact ⟨m % many, ⟨e1, e2⟩, fun h => absurd h hk, by rw [if_neg (by omega)]⟩
 obtain ⟨a, a1, a2, a3⟩ := st
 have fin : ∀ c d : Int, (-12 <= c /\ c <= 12) -> (-12 <= d /\ d <= 12) -> zix many [a, m / 8 % many, c, d] := fun c d h1 h2 => ⟨_, _, _, _, rfl, a1, ⟨e3, e4⟩, h1, h2⟩
 have zz : (-12 : Int) <= 0 /\ (0 : Int) <= 12 := ⟨by decide, by decide⟩
 rw [cc]
 unfold turn zcU
 by_cases h5 : m / 65536 % 5 = 0
 ·rcases two (m / 327680) with h2 | h2
  ·refine ⟨a, m / 8 % many, 0, m / 2048 % (2 * span + 1) - span, m, fin _ _ zz c2, a2, ?_⟩
   by_cases hk : (k : Int) < (many : Int)
   ·rw [if_pos hk] at a3
    subst a3
    have hN : k < many := by omega
    simp [hmx, ltS, hk, hN, pN, zd6, cm, pm, ps, d64, d2048, d65536, d327680, d8, eq_int, h5, h2, z2, zaV, hl']
   ·rw [if_neg hk] at a3
    subst a3
    have hN : ¬ k < many := by omega
    simp [hmx, ltS, hk, hN, pN, zd6, cm, pm, ps, d64, d2048, d65536, d327680, d8, eq_int, h5, h2, z2, zaV, hl']
  ·refine ⟨a, m / 8 % many, m / 64 % (2 * span + 1) - span, 0, m, fin _ _ c1 zz, a2, ?_⟩
   by_cases hk : (k : Int) < (many : Int)
   ·rw [if_pos hk] at a3
    subst a3
    have hN : k < many := by omega
    simp [hmx, ltS, hk, hN, pN, zd6, cm, pm, ps, d64, d2048, d65536, d327680, d8, eq_int, h5, h2, o2, zaV, hl']
   ·rw [if_neg hk] at a3
    subst a3
    have hN : ¬ k < many := by omega
    simp [hmx, ltS, hk, hN, pN, zd6, cm, pm, ps, d64, d2048, d65536, d327680, d8, eq_int, h5, h2, o2, zaV, hl']
 ·refine ⟨a, m / 8 % many, m / 64 % (2 * span + 1) - span, m / 2048 % (2 * span + 1) - span, m, fin _ _ c1 c2, a2, ?_⟩
  by_cases hk : (k : Int) < (many : Int)
  ·rw [if_pos hk] at a3
   subst a3
   have hN : k < many := by omega
   simp [hmx, ltS, hk, hN, pN, zd6, cm, pm, ps, d64, d2048, d65536, d8, eq_int, h5, zaV, hl']
  ·rw [if_neg hk] at a3
   subst a3
   have hN : ¬ k < many := by omega
   simp [hmx, ltS, hk, hN, pN, zd6, cm, pm, ps, d64, d2048, d65536, d8, eq_int, h5, zaV, hl']
end K01
namespace K01
open PySem L2 L3 L5
theorem zix.row {n : Nat} {r : List Int} (h : zix n r) : zc1 (zaV r) (wb n) = true := by
 obtain ⟨a, b, c, d, rfl, h1, h2, h3, h4⟩ := h
 have e : zaV [a, b, c, d] = .tup [.int a, .int b, .int c, .int d] := rfl
 rw [e]
 unfold wb
 rw [zmh]
 simp only [wh, Bool.and_eq_true, decide_eq_true_eq]
 omega
theorem zpa : ∀ {rs : List (List Int)}, rs.Pairwise (fun a b => HT.lexLt b a = false) -> rs.Nodup -> upR rs = true
 | [], _, _ => rfl
 | [a], _, _ => rfl
 | a :: b :: l, h, nd => by
  have h1 := List.pairwise_cons.mp h
  have n1 := List.nodup_cons.mp nd
  rw [upR, zpa h1.2 n1.2, Bool.and_true]
  cases q : HT.lexLt a b with
  | true => rfl
  | false => exact absurd (L4.zha a b q (h1.1 b List.mem_cons_self) ▸ List.mem_cons_self) n1.1
theorem zlp {r : List Int} {rs : List (List Int)} : zfB ((r :: rs).map zaV) = none := rfl
theorem zhD (rs : List (List Int)) (h0 : rs ≠ []) (hl : rs.length < 64) (hn : ∀ r ∈ rs, r ≠ []) : zdn [.lst (rs.map zaV)] = some (.lst ((L4.zey (nub rs)).map zaV)) := by
 cases rs with
 | nil => exact absurd rfl h0
 | cons r rs =>
  show (match zfB ((r :: rs).map zaV) with
   | some ns => if ns.length < 64 then some (T.lst ((upI ns).map T.int)) else none
   | none => zfG [T.lst ((r :: rs).map zaV)]) = _
  rw [zlp]
  show (zgj ((r :: rs).map zaV)).bind _ = _
  rw [zhI, Option.bind_some, if_pos ⟨hl, hn⟩]
theorem zo3 (ns : List Int) (at' many more : Nat) (span : Int) (ha : at' <= 100) (hm : 1 <= many) (hm8 : many <= 8) (hmo : more <= 16) (hs1 : 1 <= span) (hs2 : span <= 12) :
  ∃ rs : List (List Int), zdl [zdL ns, .int at', .int many, .int more, .int span] = some (.tup (rs.map zaV)) /\ zcY (.tup (rs.map zaV)) many = true /\ rs ≠ [] /\ rs.length <= 24 /\ ∀ r ∈ rs, zix many r := by
 obtain ⟨ρ', h1, rows, h2, h3, h4, h5⟩ := zdh (is := [6, 7, 8, 9]) (g := nmG 6) (b := zcU) (fun k : Nat => T.int (0 + (k : Int))) (fun p ρ => ∃ rows : List (List Int), ρ = [some (.im (zdL ns)), some (.im (.int at')), some (.im (.int many)), some (.im (.int more)), some (.im (.int span)), some (.own (.lst (rows.map zaV))), none, none, none, none] /\
   rows.length = p.length /\ (∀ r ∈ rows, zix many r) /\ ∀ k ∈ p, k < many -> (k : Int) ∈ rows.map fst) (List.range (many + more)) [some (.im (zdL ns)), some (.im (.int at')), some (.im (.int many)), some (.im (.int more)), some (.im (.int span)), some (.own (.lst [])), none, none, none, none]
   ⟨[], rfl, rfl, nofun, nofun⟩ (by
  rintro p k q e ρ ⟨rows, rfl, r1, r2, r3⟩
  have hp : p.length + 1 <= many + more := by
   have := congrArg List.length e
   simp at this; omega
  have hk : k < many + more := by
   have : k ∈ List.range (many + more) := by rw [e]; simp
   simpa using this
  obtain ⟨a, b, c, d, m, w1, w2, w3⟩ := zl7 ns at' many k more span (rows.map zaV) (by omega) hm hs1 hs2 (by simp; omega)
  refine ⟨_, w3, rows ++ [[a, b, c, d]], by simp, by simp [r1], fun r hr => ?_, fun j hj hjm => ?_⟩
  ·rcases List.mem_append.mp hr with z | z
   ·exact r2 r z
   ·cases List.mem_singleton.mp z; exact w1
  ·rw [List.map_append]
   rcases List.mem_append.mp hj with z | z
   ·exact List.mem_append_left _ (r3 j z hjm)
   ·cases List.mem_singleton.mp z
    exact List.mem_append_right _ (by rw [<- w2 hjm]; exact List.mem_cons_self))
 subst h2
 have hlen : rows.length = many + more := by rw [h3]; simp
 have hne : rows ≠ [] := fun z => by rw [z] at hlen; simp at hlen; omega
 have hrow : ∀ r ∈ rows, r ≠ [] := fun r hr => by obtain ⟨a, b, c, d, rfl, _⟩ := h4 r hr; simp
 have hss := zhD rows hne (by omega) hrow
 have hmem : ∀ r, r ∈ L4.zey (nub rows) ↔ r ∈ rows := fun r => by rw [(L4.zc9 _).mem_iff, zf0]
 have hl24 : (L4.zey (nub rows)).length <= 24 := by rw [(L4.zc9 _).length_eq]; have := zff rows; omega
 refine ⟨L4.zey (nub rows), ?_, ?_, ?_, hl24, fun r hr => h4 r ((hmem r).mp hr)⟩
 ·obtain ⟨N, hN⟩ : ∃ N, N = many + more := ⟨_, rfl⟩
  have hr := zd3 N (by omega)
  have ee : ((many : Int) + (more : Int)) = (N : Int) := by omega
  rw [<- hN] at h1
  simp only [Int.zero_add] at h1 hr
  unfold zdl zgG
  generalize zcU = bb at h1 ⊢
  simp [ee, hr, h1, hss]
 ·simp only [zcY, zcc, Bool.and_eq_true, decide_eq_true_eq, List.length_map]
  refine ⟨List.all_eq_true.mpr fun t ht => ?_, hl24, zpa (L4.zfp _) ((L4.zc9 _).nodup_iff.mpr (zeU rows)), List.all_eq_true.mpr fun k hk => ?_⟩
  ·obtain ⟨r, hr, rfl⟩ := List.mem_map.mp ht
   exact (h4 r ((hmem r).mp hr)).row
  ·have hk' : k < many := by simpa using hk
   have := h5 k (by simp; omega) hk'
   obtain ⟨r, hr, e⟩ := List.mem_map.mp this
   exact List.any_eq_true.mpr ⟨fst r, List.mem_map.mpr ⟨r, (hmem r).mpr hr, rfl⟩, by simp [e]⟩
 ·intro z
  cases hr : rows with
  | nil => exact hne hr
  | cons r l =>
   have : r ∈ L4.zey (nub rows) := (hmem r).mpr (by rw [hr]; exact List.mem_cons_self)
   rw [z] at this; cases this
end K01
namespace K01
open PySem L2 L3 L5
def zrd (os : List T) (r : List Int) : Prop := ∃ a b c d : Int, r = [a, b, c, d] /\ (0 <= a /\ a < os.length) /\ (0 <= b /\ b <= 1) /\ (1 <= c /\ c <= 12) /\ (0 <= d /\ d <= 12) /\ keeps os a = true
theorem zrd.row {os : List T} {r : List Int} (h : zrd os r) : zc1 (zaV r) (sb os.length) = true := by
 obtain ⟨a, b, c, d, rfl, h1, h2, h3, h4, _⟩ := h
 have e : zaV [a, b, c, d] = .tup [.int a, .int b, .int c, .int d] := rfl
 rw [e]
 unfold sb
 rw [zmh]
 simp only [wh, Bool.and_eq_true, decide_eq_true_eq]
 omega
theorem zi1 : ∀ (ns : List Int) (x : Int), upN ns = true -> (∀ n ∈ ns, n < x) -> upN (ns ++ [x]) = true
 | [], x, _, _ => rfl
 | [a], x, _, h => by simp [upN]; exact h a List.mem_cons_self
 | a :: b :: l, x, h, hx => by
  have h' : decide (a < b) = true /\ upN (b :: l) = true := by simpa [upN] using h
  have ih := zi1 (b :: l) x h'.2 fun n hn => hx n (List.mem_cons_of_mem _ hn)
  show (decide (a < b) && upN ((b :: l) ++ [x])) = true
  rw [h'.1, ih]; rfl
theorem zjB (os : List T) (k : Nat) (hk : k < os.length) (s kk : Str) (hs : L2.atI os (k : Int) = some (.str s)) (cell : Int) (rows : List T) (hl : rows.length <= 1000) (bb : Sm)
  (hb : bb = (zbn (ifS (zlB (zfx (opS (eqS false) (opS ixS (vrS 1) (vrS 3)) (cS (.str kk)))) (zfx (opS (eqS false) (opS zcX (vrS 0) (cS (.int 2))) (cS (.int 1))))) (zkl 2 (tupS (zac (zaI 3) (zac (opS zcX (opS zbT (vrS 0) (cS (.int 2))) (cS (.int 2))) (zac (opS zc8 (cS (.int 1)) (opS zcX (opS zbT (vrS 0) (cS (.int 4))) (cS (.int 12)))) (zac (opS zcX (opS zbT (vrS 0) (cS (.int 48))) (cS (.int 13))) zaq)))))) zbG)
 (zdH 0 (opS zbT (vrS 0) (cS (.int 624)))))) :
  turn (nmG 3) bb (.int (0 + (k : Int))) [some (.im (.int cell)), some (.im (.lst os)), some (.own (.lst rows)), none] = some (.nx [some (.im (.int (cell / 624))), some (.im (.lst os)), some (.own (.lst (rows ++ (if (s == kk) = true /\ cell % 2 = 1 then [zaV [(k : Int), cell / 2 % 2, 1 + cell / 4 % 12, cell / 48 % 13]] else [])))), some (.im (.int (k : Int)))]) := by
 have hl' : rows.length < 16777216 := by omega
 have d624 : zeq cell 624 := ⟨by decide, by decide⟩
 have d2 : zeq cell 2 := ⟨by decide, by decide⟩
 have d4 : zeq cell 4 := ⟨by decide, by decide⟩
 have d48 : zeq cell 48 := ⟨by decide, by decide⟩
 have cc : (0 : Int) + (k : Int) = (k : Int) := by omega
 rw [cc]
 subst hb
 unfold turn
 cases hq : (s == kk)
 ·simp [hs, eq_str, hq, d624]
 ·by_cases h2 : cell % 2 = 1
  ·simp [hs, eq_str, hq, eq_int, h2, d624, d2, d4, d48, hl', zaV]
  ·simp [hs, eq_str, hq, eq_int, h2, d624]
theorem zlX (cell : Int) (os : List T) (ho : os.all zhS = true) (h8 : os.length <= 8) : ∃ qs : List (List Int), zco [.int cell, .lst os] = some (.tup (qs.map zaV)) /\ zbr (.tup (qs.map zaV)) os = true /\ qs.length <= 8 := by
 obtain ⟨ρ', h1, c', qs, h2, h3, h4, h5, h6⟩ := zdh (is := [3]) (g := nmG 3) (b := zcz) (fun k : Nat => T.int (0 + (k : Int))) (fun p ρ => ∃ (c : Int) (qs : List (List Int)), ρ = [some (.im (.int c)), some (.im (.lst os)), some (.own (.lst (qs.map zaV))), none] /\ qs.length <= p.length /\ (∀ r ∈ qs, zrd os r) /\ upN (qs.map fst) = true /\ ∀ n ∈ qs.map fst, n < (p.length : Int))
   (List.range os.length) [some (.im (.int cell)), some (.im (.lst os)), some (.own (.lst [])), none] ⟨cell, [], rfl, Nat.le_refl _, nofun, rfl, nofun⟩ (by
  rintro p k q e ρ ⟨c, qs, rfl, r1, r2, r3, r4⟩
  have hpk : p.length = k := by
   have h := congrArg (fun l => l[p.length]?) e
   have hp : p.length < os.length := by have := congrArg List.length e; simp at this; omega
   simp [hp] at h
   exact h
  have hk : k < os.length := by
   have : k ∈ List.range os.length := by rw [e]; simp
   simpa using this
  obtain ⟨s, s1, s2⟩ := zli (os := os) (p := (k : Int)) (by omega) (by omega) ho "keeper"
  have tn := zjB os k hk s "keeper" s1 c (qs.map zaV) (by simp; omega) zcz rfl
  have ek : keeps os (k : Int) = (s == "keeper") := by unfold keeps; rw [s2]
  by_cases hc : (s == "keeper") = true /\ c % 2 = 1
  ·rw [if_pos hc] at tn
   refine ⟨_, tn, c / 624, qs ++ [[(k : Int), c / 2 % 2, 1 + c / 4 % 12, c / 48 % 13]], by simp, by simp; omega, fun r hr => ?_, ?_, fun n hn => ?_⟩
   ·rcases List.mem_append.mp hr with z | z
    ·exact r2 r z
    ·cases List.mem_singleton.mp z
     exact ⟨_, _, _, _, rfl, by omega, by omega, by omega, by omega, by rw [ek]; exact hc.1⟩
   ·rw [List.map_append]
    refine zi1 _ _ r3 fun n hn => ?_
    have := r4 n hn
    show n < (k : Int)
    omega
   ·rw [List.map_append] at hn
    rcases List.mem_append.mp hn with z | z
    ·have := r4 n z; simp; omega
    ·have : n = (k : Int) := by simpa [fst] using z
     simp; omega
  ·rw [if_neg hc, List.append_nil] at tn
   exact ⟨_, tn, c / 624, qs, by simp, by simp; omega, r2, r3, fun n hn => by have := r4 n hn; simp; omega⟩)
 subst h2
 refine ⟨qs, ?_, ?_, by simp at h3; omega⟩
 ·have hr := zd3 os.length (by omega)
  simp only [Int.zero_add] at h1 hr
  unfold zco zfv
  generalize zcz = bb at h1 ⊢
  simp [hr, h1]
 ·simp only [zbr, zcc, h5, Bool.true_and, Bool.and_eq_true]
  refine ⟨List.all_eq_true.mpr fun t ht => ?_, List.all_eq_true.mpr fun n hn => ?_⟩
  ·obtain ⟨r, hr, rfl⟩ := List.mem_map.mp ht
   exact (h4 r hr).row
  ·obtain ⟨r, hr, rfl⟩ := List.mem_map.mp hn
   obtain ⟨a, b, c, d, rfl, _, _, _, _, h⟩ := h4 r hr
   exact h
end K01
namespace K01
open PySem L2 L3 L5
noncomputable def scB (b m e : T) : Sm :=
 (zbn (ifS (zlB (ze5 (vrS 2)) (zfx (opS ltS (vrS 1) (cbS zdK (zac (vrS 0) zaq))))) (retS (opS zcX (opS ixS (vrS 0) (vrS 1)) (opS zpE (cS b) (cS m)))) zbG)
 (zbn (zdH 3 (cbS zaS (zac (zaI 0) (zac (zaI 1) zaq))))
 (retS (opS zc8 (opS zd6 (opS zd6 (vrS 3) (vrS 3)) (vrS 3)) (opS zd6 (cS e) (vrS 3))))))
theorem zpo (b m e : Int) (ns : List Int) (k : Nat) (d : Bool) (hk : k <= 1000) (hp : znL b m) (hm : 0 < b ^ m.toNat) (he : ∀ i, ziZ e i) (hx : ∀ i j : Int, 0 <= i -> i < 2147483629 -> ziZ j i) :
  ∃ c, zgh (scB (.int b) (.int m) (.int e) [some (.im (zdL ns)), some (.im (.int k)), some (.im (.bl d)), none]) = some (.int c) := by
 have hmx := zgd ns k hk
 obtain ⟨m0, m1⟩ := zfZ ns k
 generalize mixed ns k = q at *
 have x1 := hx q q m0 m1
 have x2 := hx q (q * q) m0 m1
 unfold scB zdL at *
 cases d
 ·exact ⟨_, by simp [hmx, zd6, x1, x2, he, zgh]; rfl⟩
 ·by_cases h : k < ns.length
  ·have z : L2.atI (ns.map T.int) (k : Int) = some (.int (ns.getD k 0)) := zck (by simp [h])
   have h' : (k : Int) < (ns.length : Int) := by omega
   exact ⟨_, by simp [h, h', z, ltS, hp, hm, zgh]; rfl⟩
  ·have h' : ¬ (k : Int) < (ns.length : Int) := by omega
   exact ⟨_, by simp [h, h', ltS, hmx, zd6, x1, x2, he, zgh]; rfl⟩
theorem zir (ns : List Int) (k : Nat) (d : Bool) (hk : k <= 1000) : ∃ c, zbI [zdL ns, .int (k : Int), .bl d] = some (.int c) :=
 zpo 10 64 104729 ns k d hk ⟨by decide, by decide, by decide⟩ (by decide) (fun i => .inl ⟨by decide, by decide⟩) (fun i j h1 h2 => .inr ⟨by omega, by omega⟩)
end K01
namespace K01
open PySem L2 L3 L5
theorem zsT (x : Int) (h : 0 <= x) : Builtin.bitAnd x 1 = 0 \/ Builtin.bitAnd x 1 = 1 := by
 have e : Builtin.bitAnd x 1 = ((x.toNat &&& 1 : Nat) : Int) := by
  unfold Builtin.bitAnd
  simp [h]
 rw [e, Nat.and_one_is_mod]
 omega
noncomputable def kt (b : Bool) : T := cond b (.str "keeper") (.str "taker")
theorem zjh (b : Bool) : zhS (kt b) = true := by cases b <;> decide
theorem zmw (k l : Str) (s a m b e x : T) (p : Nat) (num : Int) (h0 : 0 <= num) (rows : List T) (hl : rows.length <= 1000) (u v : Option W) (bb : Sm)
  (hb : bb = (zkl 6 (opS ixS (zdE (zac (cS (.str k)) (zac (cS (.str l)) zaq))) (opS zoU (opS zre (vrS 5) (vrS 7)) (cS (.int 1)))))) :
  ∃ y, (y = .str k \/ y = .str l) /\ turn (nmG 7) bb (.int (0 + (p : Int))) [some (.im s), some (.im a), some (.im m), some (.im b), some (.im e), some (.im (.int num)), some (.own (.lst rows)), none, u, v] =
   some (.nx [some (.im s), some (.im a), some (.im m), some (.im b), some (.im e), some (.im (.int num)), some (.own (.lst (rows ++ [y]))), some (.im (.int (p : Int))), u, v]) := by
 have hl' : rows.length < 16777216 := by omega
 have cc : (0 : Int) + (p : Int) = (p : Int) := by omega
 have hq : 0 <= num / 2 ^ (p : Int).toNat := Int.ediv_nonneg h0 (Int.pow_nonneg (by decide))
 rw [cc]
 subst hb
 unfold turn
 have tn : (p : Int).toNat = p := by simp
 rw [tn] at hq
 rcases zsT _ hq with h | h
 ·exact ⟨.str k, .inl rfl, by simp [h, hl']⟩
 ·exact ⟨.str l, .inr rfl, by simp [h, hl']⟩
end K01
namespace K01
open PySem L2 L3 L5
theorem four (x : Int) : x % 4 = 0 \/ x % 4 = 1 \/ x % 4 = 2 \/ x % 4 = 3 := by omega
theorem zna (ns : List Int) (at' many more : Nat) (br : T) (ha : at' <= 50) (hm : 1 <= many) (hm8 : many <= 8) (hmo : more <= 16) :
  ∃ (os : List T) (rs qs : List (List Int)), zbC [zdL ns, .int at', .int many, br, .int more] = some (.tup [br, .tup os, .tup (rs.map zaV), .tup (qs.map zaV)]) /\ os.length = many /\ os.all zhS = true /\
   zcY (.tup (rs.map zaV)) many = true /\ zbr (.tup (qs.map zaV)) os = true /\ rs ≠ [] /\ rs.length <= 24 /\ qs.length <= 8 /\ ∀ r ∈ rs, zix many r := by
 have hmx := zgd ns at' (by omega)
 obtain ⟨m0, m1⟩ := zfZ ns at'
 generalize mixed ns at' = num at *
 obtain ⟨ρ', h1, os, h2, h3, h4⟩ := zdh (is := [7]) (g := nmG 7) (b := zcn) (fun k : Nat => T.int (0 + (k : Int))) (fun p ρ => ∃ os : List T, ρ = [some (.im (zdL ns)), some (.im (.int at')), some (.im (.int many)), some (.im br), some (.im (.int more)), some (.im (.int num)), some (.own (.lst os)), none, none, none] /\ os.length = p.length /\ os.all zhS = true)
   (List.range many) [some (.im (zdL ns)), some (.im (.int at')), some (.im (.int many)), some (.im br), some (.im (.int more)), some (.im (.int num)), some (.own (.lst [])), none, none, none] ⟨[], rfl, rfl, rfl⟩ (by
  rintro p k q e ρ ⟨os, rfl, r1, r2⟩
  have hp : p.length < many := by have := congrArg List.length e; simp at this; omega
  obtain ⟨y, y1, y2⟩ := zmw "keeper" "taker" (zdL ns) (.int at') (.int many) br (.int more) (.int 0) k num m0 os (by omega) none none zcn rfl
  refine ⟨_, y2, os ++ [y], rfl, by simp [r1], ?_⟩
  rw [List.all_append, r2]
  rcases y1 with z | z
  ·subst z; exact zjh true
  ·subst z; exact zjh false)
 subst h2
 have hos : os.length = many := by simpa using h3
 have d256 : zeq num 256 := ⟨by decide, by decide⟩
 have d1024 : zeq num 1024 := ⟨by decide, by decide⟩
 have d3072 : zeq num 3072 := ⟨by decide, by decide⟩
 obtain ⟨span, s1, s2, s3⟩ : ∃ span : Int, 1 <= span /\ span <= 12 /\ L2.atI [T.int 1, .int 2, .int 3, .int 12] (num / 256 % 4) = some (.int span) := by
  rcases four (num / 256) with h | h | h | h <;> rw [h]
  ·exact ⟨1, by decide, by decide, rfl⟩
  ·exact ⟨2, by decide, by decide, rfl⟩
  ·exact ⟨3, by decide, by decide, rfl⟩
  ·exact ⟨12, by decide, by decide, rfl⟩
 obtain ⟨rs, w1, w2, w3, w4, w5⟩ := zo3 ns (at' + 2) many more span (by omega) hm hm8 hmo s1 s2
 obtain ⟨cell, c1⟩ := zir ns (at' + 1) (decide (num / 3072 % 2 = 1)) (by omega)
 obtain ⟨qs, q1, q2, q3⟩ := zlX cell os h4 (by omega)
 have hr := zd3 many (by omega)
 simp only [Int.zero_add] at h1 hr
 have e1 : ((at' + 1 : Nat) : Int) = (at' : Int) + 1 := by omega
 have e2 : ((at' + 2 : Nat) : Int) = (at' : Int) + 2 := by omega
 rw [e1] at c1
 rw [e2] at w1
 by_cases hst : num / 1024 % 3 = 1
 ·refine ⟨os, rs, qs, ?_, hos, h4, w2, q2, w3, w4, q3, w5⟩
  unfold zbC zes
  generalize zcn = bb at h1 ⊢
  simp [hmx, hr, h1, d256, d1024, d3072, s3, eq_int, hst, c1, q1, w1]
 ·refine ⟨os, rs, [], ?_, hos, h4, w2, ?_, w3, w4, by simp, w5⟩
  ·unfold zbC zes
   generalize zcn = bb at h1 ⊢
   simp [hmx, hr, h1, d256, d1024, s3, eq_int, hst, w1]
  ·simp [zbr, upN]
end K01
namespace K01
open PySem L2 L3 L5
theorem zj0 {br : T} {os : List T} {rs qs : List (List Int)} {many : Nat} (hb : zc1 br [(0, 12), (0, 12)] = true) (h1 : os.length = many) (hm : 1 <= many) (hm8 : many <= 8) (h2 : os.all zhS = true) (h3 : zcY (.tup (rs.map zaV)) many = true) (h4 : zbr (.tup (qs.map zaV)) os = true) :
  zaD (.tup [br, .tup os, .tup (rs.map zaV), .tup (qs.map zaV)]) = true := by
 have eo : zbw (.tup os) = true := by
  have a : 1 <= os.length := by omega
  have b : os.length <= 8 := by omega
  simp [zbw, a, b, h2]
 unfold zaD
 simp only [hb, eo, h1, h3, h4, Bool.and_self]
def zdM (t : T) : Prop := ∀ ts, zhF t = some ts -> ts.length <= 100000
theorem zbF {a b c d : T} (hc : zdM c) (hd : zdM d) : szJ (.tup [a, b, c, d]) := fun a' b' c' d' e => by
 cases e; exact ⟨hc, hd⟩
theorem zkw {ts : List T} (h : ts.length ≠ 4) : szJ (.tup ts) := fun a b c d e => by
 cases e; simp at h
theorem zgt {t : T} (h : ∀ ts, t ≠ .tup ts) : szJ t := fun a b c d e => absurd e (h _)
theorem za4 {ts : List T} (h : ts.length <= 100000) : zdM (.tup ts) := fun us e => by cases e; exact h
theorem zkD {ts : List T} (h : ts.length <= 100000) : zdM (.lst ts) := fun us e => by cases e; exact h
theorem zgS {L : List T} {P : T -> Prop} (hP : ∀ y ∈ L, P y) {i : Int} (h0 : 0 <= i) (h1 : i < L.length) : ∃ y, L2.atI L i = some y /\ P y := by
 have hl : i.toNat < L.length := by omega
 have e : L2.atI L i = some L[i.toNat] := by
  have := zck (k := i.toNat) (List.getElem?_eq_getElem hl)
  rw [Int.toNat_of_nonneg h0] at this
  exact this
 exact ⟨_, e, hP _ (List.getElem_mem hl)⟩
theorem zrT (q : Int) : ∃ o, ze4 [.int q] = some o := by
 have gen : ∀ z kk : Str, ∃ o, (opS ixS (zdE (zac (cS (.int 13)) (zac (opS zhs (cS (.int 0)) (cS (.int 13))) (zac (cS (.int 12)) (zac (cS (.int 0)) (zac (opS zhs (cS (.int 0)) (cS (.int 1))) (zac (cS (.bl true)) (zac (cS .non) (zac (cS (.str z)) (zac (tupS (zac (cS (.int 0)) zaq)) (zac (zdE (zac (cS (.int 0)) zaq)) (zac (cS (.int 8)) (zac (cS (.str kk)) (zac (opS zhs (cS (.int 0)) (cS (.int 12))) (zac (cS (.int 1)) (zac (cS (.int 2)) (zac (cS (.int 3)) zaq))))))))))))))))) (opS zcX (vrS 0) (cS (.int 16)))) [some (.im (.int q))] = some o := fun z kk => by
  obtain ⟨y, h, _⟩ := zgS (L := [T.int 13, .int (-13), .int 12, .int 0, .int (-1), .bl true, .non, .str z, .tup [.int 0], .lst [.int 0], .int 8, .str kk, .int (-12), .int 1, .int 2, .int 3]) (P := fun _ => True) (fun _ _ => trivial) (i := q % 16) (by omega) (by simp; omega)
  exact ⟨y, by simp [h]⟩
 obtain ⟨o, h⟩ := gen "0" "keeper"
 refine ⟨o, ?_⟩
 show zgh ((opS ixS _ _ [some (.im (.int q))]).map .rt) = _
 rw [h]; rfl
theorem zqQ {α : Type} (xs : List α) (i : Nat) (h : i <= xs.length) : zgE xs none (some (i : Int)) = xs.take i := by
 unfold zgE
 have e : HT.sIx xs.length xs.length (some (i : Int)) = i := by
  show (if (i : Int) < 0 then ((i : Int) + (xs.length : Int)).toNat else min (i : Int).toNat xs.length) = i
  rw [if_neg (by omega)]; omega
 have e2 : HT.sIx xs.length 0 none = 0 := rfl
 rw [e, e2]
 simp
theorem zmT {α : Type} (xs : List α) (i : Nat) (h : i <= xs.length) : zgE xs (some (i : Int)) none = xs.drop i := by
 unfold zgE
 have e : HT.sIx xs.length 0 (some (i : Int)) = i := by
  show (if (i : Int) < 0 then ((i : Int) + (xs.length : Int)).toNat else min (i : Int).toNat xs.length) = i
  rw [if_neg (by omega)]; omega
 have e2 : HT.sIx xs.length xs.length none = xs.length := rfl
 rw [e, e2]
 rw [List.take_of_length_le (by simp)]
theorem zlW (ts : List T) (i : Nat) (y : T) (h : i < ts.length) (hl : ts.length <= 1000) : zbf [.tup ts, .int (i : Int), y] = some (.tup (ts.take i ++ [y] ++ ts.drop (i + 1))) := by
 have c1 := zqQ ts i (by omega)
 have c2 := zmT ts (i + 1) (by omega)
 have e : ((i + 1 : Nat) : Int) = (i : Int) + 1 := by omega
 rw [e] at c2
 unfold zbf ziu
 have q1 : min i ts.length = i := by omega
 have q2 : i + 1 <= 16777216 := by omega
 have q3 : i + 1 + (ts.length - (i + 1)) <= 16777216 := by omega
 simp [c1, c2, q1, q2, q3]
end K01
namespace K01
open PySem L2 L3 L5
theorem sx {a b : Sm} {ρ ρ' : Ev} {P : Option Out -> Prop} (h : a ρ = some (.nx ρ')) (k : P (b ρ')) : P (zbn a b ρ) := by
 show P ((a ρ).bind _); rw [h]; exact k
@[simp] noncomputable def EV (fl num br O Wy Q o a way st : T) (L : List T) (p q : Option L5.W) : Ev := [some (.im fl), some (.im num), some (.im br), some (.im O), some (.im Wy), some (.im Q), some (.im o), some (.im a), some (.im way), some (.im st), some (.own (.lst L)), p, q]
theorem zm0 {ρ : Ev} {L us : List T} {g : Ev -> Option (List T)} (h : ρ[10]? = some (some (.own (.lst L)))) (hg : g ρ = some us) (hl : L.length <= 100) (hu : us.length <= 100) :
  ziq 10 (opS zc8 (vrS 10) (zdE g)) ρ = some (.nx (ρ.set 10 (some (.own (.lst (L ++ us)))))) := by
 have q1 : us.length <= sizeLine := zd8 (by omega)
 have q2 : L.length + us.length <= sizeLine := zd8 (by omega)
 have e1 : vrS 10 ρ = some (.lst L) := by simp [h]
 have e2 : zdE g ρ = some (.lst us) := by
  show (g ρ).bind _ = _
  rw [hg]; exact if_pos q1
 show ((opS zc8 (vrS 10) (zdE g)) ρ).bind _ = _
 have e3 : (opS zc8 (vrS 10) (zdE g)) ρ = some (.lst (L ++ us)) := by
  show ((vrS 10) ρ).bind _ = _
  rw [e1]
  show ((zdE g) ρ).bind _ = _
  rw [e2]
  exact if_pos q2
 rw [e3]; rfl
theorem zmZ {ρ : Ev} {L : List T} {y : T} {g : Ev -> Option T} (h : ρ[10]? = some (some (.own (.lst L)))) (hg : g ρ = some y) (hl : L.length <= 100) :
  zkl 10 g ρ = some (.nx (ρ.set 10 (some (.own (.lst (L ++ [y])))))) := by
 unfold zkl
 rw [h]
 show (g ρ).bind _ = _
 rw [hg]
 exact if_pos (zmC (by omega))
theorem zaF {f : Ev -> Option T} {g : Ev -> Option (List T)} {ρ : Ev} {x : T} {xs : List T} (h : f ρ = some x) (h' : g ρ = some xs) : zac f g ρ = some (x :: xs) := by
 show (f ρ).bind _ = _; rw [h]; show (g ρ).bind _ = _; rw [h']; rfl
theorem zhr {f1 f2 f3 f4 : Ev -> Option T} {ρ : Ev} {x1 x2 x3 x4 : T} (h1 : f1 ρ = some x1) (h2 : f2 ρ = some x2) (h3 : f3 ρ = some x3) (h4 : f4 ρ = some x4) :
  tupS (zac f1 (zac f2 (zac f3 (zac f4 zaq)))) ρ = some (.tup [x1, x2, x3, x4]) := by
 show ((zac f1 (zac f2 (zac f3 (zac f4 zaq)))) ρ).bind _ = _
 rw [zaF h1 (zaF h2 (zaF h3 (zaF h4 rfl)))]
 rfl
theorem all1 {P : T -> Prop} {a : T} (h : P a) : ∀ y ∈ [a], P y := fun y hy => by cases List.mem_singleton.mp hy; exact h
theorem all2 {P : T -> Prop} {a b : T} (h : P a) (h' : P b) : ∀ y ∈ [a, b], P y := List.forall_mem_cons.mpr ⟨h, all1 h'⟩
theorem zrO {P : T -> Prop} {L us : List T} (h : ∀ y ∈ L, P y) (h' : ∀ y ∈ us, P y) : ∀ y ∈ L ++ us, P y := fun y hy => by
 rcases List.mem_append.mp hy with z | z
 ·exact h y z
 ·exact h' y z
theorem cb3 {F : List T -> Option T} {f1 f2 f3 : Ev -> Option T} {ρ : Ev} {x1 x2 x3 : T} {r : Option T} (h1 : f1 ρ = some x1) (h2 : f2 ρ = some x2) (h3 : f3 ρ = some x3) (h : F [x1, x2, x3] = r) : cbS F (zac f1 (zac f2 (zac f3 zaq))) ρ = r := by
 show ((zac f1 (zac f2 (zac f3 zaq))) ρ).bind F = r
 rw [zaF h1 (zaF h2 (zaF h3 rfl))]
 exact h
theorem cb1 {F : List T -> Option T} {f1 : Ev -> Option T} {ρ : Ev} {x1 : T} {r : Option T} (h1 : f1 ρ = some x1) (h : F [x1] = r) : cbS F (zac f1 zaq) ρ = r := by
 show ((zac f1 zaq) ρ).bind F = r
 rw [zaF h1 rfl]
 exact h
theorem zel {f : T -> T -> Option T} {fa fb : Ev -> Option T} {ρ : Ev} {x y : T} {r : Option T} (h1 : fa ρ = some x) (h2 : fb ρ = some y) (h : f x y = r) : opS f fa fb ρ = r := by
 show (fa ρ).bind _ = r; rw [h1]; show (fb ρ).bind _ = r; rw [h2]; exact h
theorem znc {f1 : Ev -> Option T} {ρ : Ev} {x1 : T} (h1 : f1 ρ = some x1) : tupS (zac f1 zaq) ρ = some (.tup [x1]) := by
 show ((zac f1 zaq) ρ).bind _ = _
 rw [zaF h1 rfl]; rfl
theorem zfg {f1 : Ev -> Option T} {ρ : Ev} {ts : List T} (h1 : f1 ρ = some (.tup ts)) : cbS zdK (zac f1 zaq) ρ = some (.int ts.length) := cb1 h1 rfl
theorem zcm {fa fb : Ev -> Option T} {ρ : Ev} {i j : Int} (h1 : fa ρ = some (.int i)) (h2 : fb ρ = some (.int j)) (h : 0 < j) : opS zcX fa fb ρ = some (.int (i % j)) := zel h1 h2 (by simp [h])
theorem zeg {fa fb : Ev -> Option T} {ρ : Ev} {i j : Int} (h1 : fa ρ = some (.int i)) (h2 : fb ρ = some (.int j)) (h : zeq i j) : opS zbT fa fb ρ = some (.int (i / j)) := zel h1 h2 (by simp [h])
theorem zhm {ts us : List T} (h : ts.length + us.length <= 10000) : zc8 (.tup ts) (.tup us) = some (.tup (ts ++ us)) := if_pos (zd8 h)
theorem zow (ts : List T) (i : Nat) (y : T) (h : i < ts.length) : (ts.take i ++ [y] ++ ts.drop (i + 1)).length = ts.length := by
 simp; omega
theorem zoO {α : Type} (xs : List α) (lo hi : Option Int) : (zgE xs lo hi).length <= xs.length := by
 unfold zgE; simp; omega
theorem zjD (ts : List T) (rs : List (List Int)) (e : ts = rs.map zaV) (hl : rs.length < 64) (hn : ∀ r ∈ rs, r ≠ []) : ∃ us, zkB [.tup ts] = some (.lst us) /\ us.length = rs.length := by
 refine ⟨(L4.zey rs).map zaV, ?_, ?_⟩
 ·unfold zkB
  show (zgj ts).bind _ = _
  rw [e, zhI]
  exact if_pos ⟨hl, hn⟩
 ·rw [List.length_map]; exact (L4.zc9 rs).length_eq
def PJ (u : Option Out) : Prop := ∃ z, zgh u = some z /\ szJ z
theorem sj {a b : Sm} {ρ ρ' : Ev} (h : a ρ = some (.nx ρ')) (k : PJ (b ρ')) : PJ (zbn a b ρ) := sx h k
theorem zea {i : Nat} {f : Ev -> Option T} {ρ : Ev} {y : T} (h : f ρ = some y) : zdH i f ρ = some (.nx (ρ.set i (some (.im y)))) := by
 show (f ρ).map _ = _; rw [h]; rfl
theorem stA (n : Nat) {g : Ev -> Option (List T)} {b : Sm} {ρ : Ev} {L us : List T} (hg : g ρ = some us) (h : ρ[10]? = some (some (.own (.lst L)))) (nL : L.length <= 30) (aL : ∀ y ∈ L, szJ y) (au : ∀ y ∈ us, szJ y) (hu : us.length = n) (hn : n <= 3) (k : ∀ M, M.length = L.length + n -> (∀ y ∈ M, szJ y) -> PJ (b (ρ.set 10 (some (.own (.lst M)))))) :
  PJ (zbn (ziq 10 (opS zc8 (vrS 10) (zdE g))) b ρ) := sj (zm0 h hg (by omega) (by omega)) (k _ (by simp [hu]) (zrO aL au))
theorem stP {g : Ev -> Option T} {b : Sm} {ρ : Ev} {L : List T} {u : T} (hg : g ρ = some u) (h : ρ[10]? = some (some (.own (.lst L)))) (nL : L.length <= 30) (aL : ∀ y ∈ L, szJ y) (au : szJ u) (k : ∀ M, M.length = L.length + 1 -> (∀ y ∈ M, szJ y) -> PJ (b (ρ.set 10 (some (.own (.lst M)))))) :
  PJ (zbn (zkl 10 g) b ρ) := sj (zmZ h hg (by omega)) (k _ (by simp) (zrO aL (all1 au)))
set_option maxHeartbeats 4000000 in
theorem zm7 (x y : Int) (os ws qs : List T) (rs : List (List Int)) (num : Int) (h0 : 0 <= num) (ho : 1 <= os.length) (ho8 : os.length <= 8) (hws : ws = rs.map zaV) (hr1 : 1 <= ws.length) (hr24 : ws.length <= 24) (hq : qs.length <= 8) (hw : ∀ r ∈ rs, ∃ a b c d, r = [a, b, c, d]) :
  ∃ z, zc6 [.tup [.tup [.int x, .int y], .tup os, .tup ws, .tup qs], .int num] = some z /\ szJ z := by
 obtain ⟨o, hod⟩ := zrT (num / 21)
 have d21 : zeq num 21 := ⟨by decide, by decide⟩
 have d336 : zeq num 336 := ⟨by decide, by decide⟩
 obtain ⟨a, ha⟩ : ∃ a : Nat, num / 336 = (a : Int) := ⟨(num / 336).toNat, by omega⟩
 have d8 : zeq (a : Int) 8 := ⟨by decide, by decide⟩
 have d16 : zeq (a : Int) 16 := ⟨by decide, by decide⟩
 have d192 : zeq (a : Int) 192 := ⟨by decide, by decide⟩
 have d24 : zeq (a : Int) 24 := ⟨by decide, by decide⟩
 have d9 : zeq (a : Int) 9 := ⟨by decide, by decide⟩
 obtain ⟨i, hi, hil⟩ : ∃ i : Nat, (a : Int) % (ws.length : Int) = (i : Int) /\ i < ws.length := ⟨a % ws.length, (Int.natCast_emod a ws.length).symm, Nat.mod_lt _ (by omega)⟩
 obtain ⟨j, hj, hjl⟩ : ∃ i : Nat, (a : Int) % (os.length : Int) = (i : Int) /\ i < os.length := ⟨a % os.length, (Int.natCast_emod a os.length).symm, Nat.mod_lt _ (by omega)⟩
 obtain ⟨k, hk, hkl⟩ : ∃ i : Nat, (a : Int) % 2 = (i : Int) /\ i < 2 := ⟨a % 2, by omega, by omega⟩
 obtain ⟨l, hl, hll⟩ : ∃ i : Nat, (a : Int) / 24 % 4 = (i : Int) /\ i < 4 := ⟨a / 24 % 4, by omega, by omega⟩
 obtain ⟨m, hm, hml⟩ : ∃ i : Nat, (a : Int) / 9 % 4 = (i : Int) /\ i < 4 := ⟨a / 9 % 4, by omega, by omega⟩
 obtain ⟨w1, w2, w3, w4, hat, hmem⟩ : ∃ w1 w2 w3 w4 : Int, ws[i]? = some (.tup [.int w1, .int w2, .int w3, .int w4]) /\ [w1, w2, w3, w4] ∈ rs := by
  have hir : i < rs.length := by rw [hws, List.length_map] at hil; exact hil
  obtain ⟨w1, w2, w3, w4, e⟩ := hw rs[i] (List.getElem_mem hir)
  refine ⟨w1, w2, w3, w4, ?_, ?_⟩
  ·rw [hws, List.getElem?_map, List.getElem?_eq_getElem hir, e]; rfl
  ·rw [<- e]; exact List.getElem_mem hir
 have pos1 : (0 : Int) < ws.length := by omega
 have pos2 : (0 : Int) < os.length := by omega
 obtain ⟨sr, hsr, hsl⟩ := zjD (ws ++ [.tup [.int w1, .int w2, .int w3, .int w4]]) (rs ++ [[w1, w2, w3, w4]]) (by rw [hws, List.map_append]; rfl) (by rw [hws, List.length_map] at hr24; simp; omega) (by
  intro r hr
  rcases List.mem_append.mp hr with h | h
  ·obtain ⟨_, _, _, _, rfl⟩ := hw r h; simp
  ·cases List.mem_singleton.mp h; simp)
 have hsl' : sr.length <= 25 := by rw [hsl]; rw [hws, List.length_map] at hr24; simp; omega
 clear hw hws hmem hsl
 have sW : zdM (.tup ws) := za4 (by omega)
 have sQ : zdM (.tup qs) := za4 (by omega)
 show PJ (zdX [some (.im (.tup [.tup [.int x, .int y], .tup os, .tup ws, .tup qs])), some (.im (.int num)), none, none, none, none, none, none, none, none, none, none, none])
 unfold zdX
 generalize hfl : (T.tup [.tup [.int x, .int y], .tup os, .tup ws, .tup qs]) = fl
 have sf : szJ fl := by rw [<- hfl]; exact zbF sW sQ
 refine sj (ρ' := [some (.im fl), some (.im (.int num)), some (.im (.tup [.int x, .int y])), some (.im (.tup os)), some (.im (.tup ws)), some (.im (.tup qs)), none, none, none, none, none, none, none]) (by rw [<- hfl]; rfl) ?_
 refine sj (zea (by rw [cb1 (zeg (i := num) (j := 21) rfl rfl d21) hod])) ?_
 refine sj (zea (by rw [zeg (i := num) (j := 336) rfl rfl d336, ha])) ?_
 refine sj (zea (by rw [zel (x := .tup ws) (y := .int (i : Int)) rfl (by rw [zcm (i := a) rfl (zfg (ts := ws) rfl) pos1, hi]) (r := some (.tup [.int w1, .int w2, .int w3, .int w4])) (zck hat)])) ?_
 refine sj (zea (by rw [zhr (x1 := .int (j : Int)) (by rw [zcm (i := a) rfl (zfg (ts := os) rfl) pos2, hj]) (zcm (zeg (i := a) (j := 8) rfl rfl d8) (j := 2) rfl (by decide)) (zel (x := .int 1) rfl (zcm (zeg (i := a) (j := 16) rfl rfl d16) (j := 12) rfl (by decide)) rfl) (zcm (zeg (i := a) (j := 192) rfl rfl d192) (j := 13) rfl (by decide))])) ?_
 generalize (1 + (a : Int) / 16 % 12) = s3
 generalize ((a : Int) / 8 % 2) = s2
 generalize ((a : Int) / 192 % 13) = s4
 have pk : ∀ Y, zbf [.tup [.int x, .int y], .int (k : Int), Y] = some (.tup (([.int x, .int y] : List T).take k ++ [Y] ++ ([.int x, .int y] : List T).drop (k + 1))) := fun Y => zlW _ k Y hkl (by simp)
 have pj : ∀ Y, zbf [.tup os, .int (j : Int), Y] = some (.tup (os.take j ++ [Y] ++ os.drop (j + 1))) := fun Y => zlW _ j Y hjl (by omega)
 have pi : ∀ Y, zbf [.tup ws, .int (i : Int), Y] = some (.tup (ws.take i ++ [Y] ++ ws.drop (i + 1))) := fun Y => zlW _ i Y hil (by omega)
 have ni : ∀ Y, zdM (.tup (ws.take i ++ [Y] ++ ws.drop (i + 1))) := fun Y => za4 (by rw [zow ws i Y hil]; omega)
 have pl : ∀ Y, zbf [.tup [.int w1, .int w2, .int w3, .int w4], .int (l : Int), Y] = some (.tup (([.int w1, .int w2, .int w3, .int w4] : List T).take l ++ [Y] ++ ([.int w1, .int w2, .int w3, .int w4] : List T).drop (l + 1))) := fun Y => zlW _ l Y hll (by simp)
 have pm : ∀ Y, zbf [.tup [.int j, .int s2, .int s3, .int s4], .int (m : Int), Y] = some (.tup (([.int j, .int s2, .int s3, .int s4] : List T).take m ++ [Y] ++ ([.int j, .int s2, .int s3, .int s4] : List T).drop (m + 1))) := fun Y => zlW _ m Y hml (by simp)
 have nq : ∀ Y, zdM (.tup (qs ++ [Y])) := fun Y => za4 (by simp; omega)
 have n1 : ∀ Y, zdM (.tup [Y]) := fun Y => za4 (by simp)
 have n0 : zdM (.tup []) := za4 (by simp)
 have lay : listS [.tup [.int w1, .int w2, .int w3, .int w4]] = some (.lst [.int w1, .int w2, .int w3, .int w4]) := rfl
 generalize ([.int w1, .int w2, .int w3, .int w4] : List T) = way at *
 generalize ([.int j, .int s2, .int s3, .int s4] : List T) = st at *
 have lbr : listS [.tup [.int x, .int y]] = some (.lst [.int x, .int y]) := rfl
 have lfl : listS [fl] = some (.lst [.tup [.int x, .int y], .tup os, .tup ws, .tup qs]) := by rw [<- hfl]; rfl
 have afl : zc8 fl (.tup [.tup []]) = some (.tup [.tup [.int x, .int y], .tup os, .tup ws, .tup qs, .tup []]) := by rw [<- hfl]; rfl
 clear hfl
 generalize ([.int x, .int y] : List T) = br at *
 refine sj (ρ' := EV fl (.int num) (.tup br) (.tup os) (.tup ws) (.tup qs) o (.int a) (.tup way) (.tup st) [fl, .tup [.tup (br.take k ++ [o] ++ br.drop (k + 1)), .tup os, .tup ws, .tup qs], .tup [.tup br, .tup (os ++ [o]), .tup ws, .tup qs]] none none) (by
  simp only [ziq, zdE]
  rw [zaF (x := fl) rfl (zaF (zhr (cb3 (x1 := .tup br) rfl (by rw [zcm (i := a) (j := 2) rfl rfl (by decide), hk]) (x3 := o) rfl (pk o)) (x2 := .tup os) rfl (x3 := .tup ws) rfl (x4 := .tup qs) rfl) (zaF (zhr (x1 := .tup br) rfl (zel (x := .tup os) rfl (znc (x1 := o) rfl) (zhm (by simp; omega))) (x3 := .tup ws) rfl (x4 := .tup qs) rfl) (xs := []) rfl))]
  rfl) ?_
 obtain ⟨L, eL, nL, aL⟩ : ∃ L, L = [fl, .tup [.tup (br.take k ++ [o] ++ br.drop (k + 1)), .tup os, .tup ws, .tup qs], .tup [.tup br, .tup (os ++ [o]), .tup ws, .tup qs]] /\ L.length = 3 /\ ∀ y ∈ L, szJ y := ⟨_, rfl, rfl, List.forall_mem_cons.mpr ⟨sf, all2 (zbF sW sQ) (zbF sW sQ)⟩⟩
 rw [<- eL]; clear eL
 refine stA 2 (us := [.tup [.tup br, .tup (os.take j ++ [o] ++ os.drop (j + 1)), .tup ws, .tup qs], .tup [.lst br, .tup os, .tup ws, .tup qs]]) (zaF (zhr rfl (cb3 (x1 := .tup os) rfl (by rw [zcm (i := a) rfl (zfg (ts := os) rfl) pos2, hj]) (x3 := o) rfl (pj o)) rfl rfl) (zaF (zhr (cb1 rfl lbr) rfl rfl rfl) rfl)) rfl (by omega) aL (all2 (zbF sW sQ) (zbF sW sQ)) rfl (by decide) fun L2 nL2 aL2 => ?_
 refine sj (zea (by rw [cb3 (x1 := .tup ws) rfl (by rw [zcm (i := a) rfl (zfg (ts := ws) rfl) pos1, hi]) (cb3 (x1 := .tup way) rfl (by rw [zcm (zeg (i := a) (j := 24) rfl rfl d24) (j := 4) rfl (by decide), hl]) (x3 := o) rfl (pl o)) (pi _)])) ?_
 have nt := ni (.tup (way.take l ++ [o] ++ way.drop (l + 1)))
 generalize (T.tup (ws.take i ++ [.tup (way.take l ++ [o] ++ way.drop (l + 1))] ++ ws.drop (i + 1))) = tw at nt ⊢
 refine stA 2 (us := [.tup [.tup br, .tup os, tw, .tup qs], .tup [.tup br, .tup os, .tup sr, .tup qs]]) (zaF (zhr rfl rfl rfl rfl) (zaF (zhr rfl rfl (cb1 (cb1 (zel rfl (znc rfl) (zhm (us := [.tup way]) (by simp; omega))) hsr) rfl) rfl) rfl)) rfl (by omega) aL2 (all2 (zbF nt sQ) (zbF (za4 (by omega)) sQ)) rfl (by decide) fun L3 nL3 aL3 => ?_
 refine stA 2 (us := [.tup [.tup br, .tup os, .tup ws.reverse, .tup qs], .tup [.tup br, .tup os, .tup (zgE ws none (some (-1))), .tup qs]]) (zaF (zhr rfl rfl rfl rfl) (zaF (zhr rfl rfl rfl rfl) rfl)) rfl (by omega) aL3 (all2 (zbF (za4 (by simp; omega)) sQ) (zbF (za4 (Nat.le_trans (zoO _ _ _) (by omega))) sQ)) rfl (by decide) fun L4 nL4 aL4 => ?_
 refine stA 1 (us := [.tup [.tup br, .tup (zgE os none (some (-1))), .tup ws, .tup qs]]) (zaF (zhr rfl rfl rfl rfl) rfl) rfl (by omega) aL4 (all1 (zbF sW sQ)) rfl (by decide) fun L5 nL5 aL5 => ?_
 refine sj (zea (by rw [cb3 (x1 := .tup st) rfl (by rw [zcm (zeg (i := a) (j := 9) rfl rfl d9) (j := 4) rfl (by decide), hm]) (x3 := o) rfl (pm o)])) ?_
 generalize (T.tup (st.take m ++ [o] ++ st.drop (m + 1))) = sp
 refine stA 2 (us := [.tup [.tup br, .tup os, .tup ws, .tup [.tup st]], .tup [.tup br, .tup os, .tup ws, .tup [sp]]]) (zaF (zhr rfl rfl rfl (znc rfl)) (zaF (zhr rfl rfl rfl (znc rfl)) rfl)) rfl (by omega) aL5 (all2 (zbF sW (n1 _)) (zbF sW (n1 _))) rfl (by decide) fun L6 nL6 aL6 => ?_
 refine stA 2 (us := [.tup [.tup br, .tup os, .tup ws, .tup (qs ++ [.tup st])], .tup [.tup br, .tup os, .lst ws, .tup qs]]) (zaF (zhr rfl rfl rfl (zel rfl (znc rfl) (zhm (us := [.tup st]) (by simp; omega)))) (zaF (zhr rfl rfl (cb1 (x1 := .tup ws) rfl rfl) rfl) rfl)) rfl (by omega) aL6 (all2 (zbF sW (nq _)) (zbF (zkD (by omega)) sQ)) rfl (by decide) fun L7 nL7 aL7 => ?_
 refine stP (u := .tup [.tup br, .tup os, .tup [], .tup []]) (zhr rfl rfl rfl rfl) rfl (by omega) aL7 (zbF n0 n0) fun L8 nL8 aL8 => ?_
 refine stA 2 (us := [.tup [.tup br, .tup (os ++ [.str "taker"]), .tup ws, .tup qs], .tup [.tup br, .tup os, .tup ws]]) (zaF (zhr rfl (zel rfl (znc rfl) (zhm (us := [.str "taker"]) (by simp; omega))) rfl rfl) (zaF rfl rfl)) rfl (by omega) aL8 (all2 (zbF sW sQ) (zkw (by simp))) rfl (by decide) fun L9 nL9 aL9 => ?_
 refine stA 2 (us := [.tup [.tup br, .tup os, .tup ws, .tup qs, .tup []], .lst [.tup br, .tup os, .tup ws, .tup qs]]) (zaF (zel (x := fl) rfl (znc (x1 := .tup []) rfl) afl) (zaF (cb1 (x1 := fl) rfl lfl) rfl)) rfl (by omega) aL9 (all2 (zkw (by simp)) (zgt (by simp))) rfl (by decide) fun L10 nL10 aL10 => ?_
 refine stP (u := .tup [.tup br, .tup os, .tup (ws.take i ++ [.lst way] ++ ws.drop (i + 1)), .tup qs]) (zhr rfl rfl (cb3 (x1 := .tup ws) rfl (by rw [zcm (i := a) rfl (zfg (ts := ws) rfl) pos1, hi]) (cb1 (x1 := .tup way) rfl lay) (pi _)) rfl) rfl (by omega) aL10 (zbF (ni _) sQ) fun L11 nL11 aL11 => ?_
 have mk : ∀ z : Str, zd6 (.tup [.str z]) (.int os.length) = some (.tup (List.replicate os.length (.str z))) := fun z => by
  show (if [T.str z] ≠ [] /\ 1 <= (os.length : Int) /\ [T.str z].length * (os.length : Int).toNat <= sizeLine then some (T.tup (List.replicate (os.length : Int).toNat [T.str z]).flatten) else none) = _
  rw [if_pos ⟨by simp, by omega, zd8 (by simp; omega)⟩]
  have : ∀ n : Nat, (List.replicate n [T.str z]).flatten = List.replicate n (.str z) := fun n => by
   induction n with
   | zero => rfl
   | succ n ih => rw [List.replicate_succ, List.replicate_succ, List.flatten_cons, ih]; rfl
  rw [this]; rfl
 obtain ⟨K, kp⟩ : ∃ K, zd6 (.tup [.str "Keeper"]) (.int os.length) = some (.tup K) := ⟨_, mk "Keeper"⟩
 obtain ⟨z, hz, sz⟩ := zgS (L := L11 ++ [.tup [.tup br, .tup K, .tup ws, .tup qs]]) (P := szJ) (zrO aL11 (all1 (zbF sW sQ))) (i := num % 21) (by omega) (by simp [nL11]; omega)
 refine ⟨z, ?_, sz⟩
 have fin : opS ixS (opS zc8 (vrS 10) (zdE (zac (tupS (zac (zaI 2) (zac (opS zd6 (tupS (zac (cS (.str "Keeper")) zaq)) (cbS zdK (zac (vrS 3) zaq))) (zac (zaI 4) (zac (zaI 5) zaq))))) zaq))) (opS zcX (vrS 1) (cS (.int 21))) (EV fl (.int num) (.tup br) (.tup os) (.tup ws) (.tup qs) o (.int a) (.tup way) (.tup st) L11 (some (.im tw)) (some (.im sp))) = some z := by
  have hz' : ixS (.lst (L11 ++ [.tup [.tup br, .tup K, .tup ws, .tup qs]])) (.int (num % 21)) = some z := hz
  refine zel (zel (x := .lst L11) rfl (y := .lst [.tup [.tup br, .tup K, .tup ws, .tup qs]]) ?_ ?_) (zcm (i := num) rfl rfl (by decide)) hz'
  ·show ((zac _ zaq) _).bind _ = _
   rw [zaF (zhr rfl (zel (znc rfl) (zfg (ts := os) rfl) kp) rfl rfl) rfl]
   rfl
  ·exact if_pos (zd8 (by simp; omega))
 show zgh ((opS ixS _ _ (EV fl (.int num) (.tup br) (.tup os) (.tup ws) (.tup qs) o (.int a) (.tup way) (.tup st) L11 (some (.im tw)) (some (.im sp)))).map .rt) = _
 rw [fin]; rfl
end K01
namespace K01
open PySem L2 L3 L5
theorem zoL (a b : Bool) (neg : Bool) : eqS neg (.bl a) (.bl b) = some (.bl (cond neg (!(a == b)) (a == b))) := by
 simp [eqS, dep, eqT]
theorem zlh (ns : List Int) (num many : Int) (x y : Int) (os : List T) (rs qs : List (List Int)) (ho : 1 <= os.length) (ho8 : os.length <= 8) (hr : rs ≠ []) (hr24 : rs.length <= 24) (hq : qs.length <= 8) (hw : ∀ r ∈ rs, ∃ a b c d, r = [a, b, c, d]) (k : Nat) (hk : k < 32) (e4 : Option L5.W) :
  ∃ z, turn (nmG 4) zju (.int (((30 : Nat) : Int) + (k : Int))) [some (.im (zdL ns)), some (.im (.int num)), some (.im (.int many)), some (.im (.tup [.tup [.int x, .int y], .tup os, .tup (rs.map zaV), .tup (qs.map zaV)])), e4, none, none, none, none, none]
   = some (.nx [some (.im (zdL ns)), some (.im (.int num)), some (.im (.int many)), some (.im (.tup [.tup [.int x, .int y], .tup os, .tup (rs.map zaV), .tup (qs.map zaV)])), some (.im (.int (((30 : Nat) : Int) + (k : Int)))), some (.im z), some (.im (.bl (zaD z))), none, none, none]) := by
 have hmx := zgd ns (30 + k) (by omega)
 obtain ⟨m0, m1⟩ := zfZ ns (30 + k)
 have e : ((30 + k : Nat) : Int) = ((30 : Nat) : Int) + (k : Int) := by omega
 rw [e] at hmx
 generalize mixed ns (30 + k) = nu at *
 obtain ⟨z, hz, sz⟩ := zm7 x y os (rs.map zaV) (qs.map zaV) rs nu m0 ho ho8 rfl (by cases rs with | nil => exact absurd rfl hr | cons a l => simp) (by simpa using hr24) (by simpa using hq) hw
 have h1 := zge z sz.f
 have h2 := zjw z sz
 refine ⟨z, ?_⟩
 generalize (T.tup [.tup [.int x, .int y], .tup os, .tup (rs.map zaV), .tup (qs.map zaV)]) = fl at *
 generalize (((30 : Nat) : Int) + (k : Int)) = kk at *
 unfold turn zju
 generalize zaD z = b at *
 have ib : isT "bool" "bool" = true := by decide
 simp [hmx, hz, h1, h2, zoL, ib]
noncomputable def zko (n : Nat) : T := .tup ((List.range n).map fun (k : Nat) => T.tup [.int (0 + (k : Int)), .int 0, .int 0, .int 0])
noncomputable def zhv (n : Nat) (c : Int) : T := .tup ((List.range n).map fun (k : Nat) => T.tup [.int 0, .int 0, .int (0 + (k : Int) - 12), .int c])
theorem zrM (n : Nat) (hn : n <= 100) (a b c e : Option L5.W) (r : Ev) : zjr (a :: b :: some (.im (.int n)) :: r) = some (.lst ((List.range n).map fun (k : Nat) => T.tup [.int (0 + (k : Int)), .int 0, .int 0, .int 0])) := by
 unfold zjr
 have hr := zd3 n (by omega)
 refine zcS (fun k : Nat => T.int (0 + (k : Int))) _ (List.range n) ?_ (by simp; omega) ?_
 ·simp only [Int.zero_add] at hr ⊢
  simp [hr]
 ·intro k _; simp [lcE]
theorem zrL (n : Nat) (hn : n <= 100) (num : Int) (a b c d e f g : Option L5.W) (r : Ev) : zjq (a :: some (.im (.int num)) :: b :: c :: d :: e :: f :: g :: some (.im (.int n)) :: r) = some (.lst ((List.range n).map fun (k : Nat) => T.tup [.int 0, .int 0, .int (0 + (k : Int) - 12), .int (num % 25 - 12)])) := by
 unfold zjq
 have hr := zd3 n (by omega)
 refine zcS (fun k : Nat => T.int (0 + (k : Int))) _ (List.range n) ?_ (by simp; omega) ?_
 ·simp only [Int.zero_add] at hr ⊢
  simp [hr]
 ·intro k _; simp [lcE]
theorem tks (n : Nat) (z : Str) (h1 : 1 <= n) (h : n <= 100) : zd6 (.tup [.str z]) (.int n) = some (.tup (List.replicate n (.str z))) := by
 show (if [T.str z] ≠ [] /\ 1 <= (n : Int) /\ [T.str z].length * (n : Int).toNat <= sizeLine then some (T.tup (List.replicate (n : Int).toNat [T.str z]).flatten) else none) = _
 rw [if_pos ⟨by simp, by omega, zd8 (by simp; omega)⟩]
 have : ∀ n : Nat, (List.replicate n [T.str z]).flatten = List.replicate n (.str z) := fun n => by
  induction n with
  | zero => rfl
  | succ n ih => rw [List.replicate_succ, List.replicate_succ, List.flatten_cons, ih]; rfl
 rw [this]; rfl
theorem zoh (n : Nat) : (List.replicate n (.str "taker")).all zhS = true := by
 rw [List.all_eq_true]; intro t ht; rw [List.eq_of_mem_replicate ht]; exact zjh false
theorem zk4 (n : Nat) (h : n = 1 \/ n = 8 \/ n = 9) (br : T) (hb : zc1 br [(0, 12), (0, 12)] = true) : zaD (.tup [br, .tup (List.replicate n (.str "taker")), zko n, .tup []]) = decide ((n : Int) < 9) := by
 have ho := zoh n
 have hs : zbr (.tup []) (List.replicate n (.str "taker")) = true := by simp [zbr, upN]
 have hw : zcY (zko n) n = true := by
  rcases h with rfl | rfl | rfl <;> decide +kernel
 unfold zaD
 simp only [hb, hs, List.length_replicate, hw, Bool.and_true, Bool.true_and]
 unfold zbw
 simp only [ho, List.length_replicate, Bool.and_true]
 rcases h with rfl | rfl | rfl <;> decide
theorem zor (n : Nat) (h : n = 23 \/ n = 24 \/ n = 25) (br : T) (hb : zc1 br [(0, 12), (0, 12)] = true) (c : Int) (h0 : 0 <= c) (h1 : c < 25) : zaD (.tup [br, .tup [.str "keeper"], zhv n (c - 12), .tup []]) = decide ((n : Int) < 25) := by
 have ho : zbw (.tup [.str "keeper"]) = true := by
  unfold zbw
  have : zhS (.str "keeper") = true := zjh true
  simp only [List.all_cons, List.all_nil, Bool.and_true, this]
  rfl
 have hs : zbr (.tup []) [.str "keeper"] = true := by simp [zbr, upN]
 have all : ∀ c : Fin 25, zcY (zhv 23 ((c.val : Int) - 12)) 1 = true /\ zcY (zhv 24 ((c.val : Int) - 12)) 1 = true /\ zcY (zhv 25 ((c.val : Int) - 12)) 1 = false := by decide +kernel
 obtain ⟨k, rfl, hk⟩ : ∃ k : Nat, c = (k : Int) /\ k < 25 := ⟨c.toNat, by omega, by omega⟩
 have := all ⟨k, hk⟩
 unfold zaD
 simp only [hb, hs, ho, Bool.and_true, Bool.true_and]
 show zcY (zhv n ((k : Int) - 12)) 1 = _
 rcases h with rfl | rfl | rfl
 ·rw [this.1]; rfl
 ·rw [this.2.1]; rfl
 ·rw [this.2.2]; rfl
theorem zlg (sc num fl : T) (e4 : Option L5.W) (n : Nat) (h : n = 1 \/ n = 8 \/ n = 9) (br : T) (fs : List T) (hf : fl = .tup (br :: fs)) (hb : zc1 br [(0, 12), (0, 12)] = true) :
  ∃ z, turn (nmG 2) zjt (.int (n : Int)) [some (.im sc), some (.im num), none, some (.im fl), e4, none, none, none, none, none]
   = some (.nx [some (.im sc), some (.im num), some (.im (.int (n : Int))), some (.im fl), e4, none, none, some (.im z), none, none]) := by
 have ix0 : ixS fl (.int 0) = some br := by rw [hf]; simp
 have n1 : 1 <= n := by omega
 have n9 : n <= 100 := by omega
 have ht := tks n "taker" n1 n9
 have hp := zk4 n h br hb
 refine ⟨.tup [br, .tup (List.replicate n (.str "taker")), zko n, .tup []], ?_⟩
 have hF := zge (.tup [br, .tup (List.replicate n (.str "taker")), zko n, .tup []]) (szJ.f (zbF (za4 (by simp; omega)) (za4 (by simp))))
 rw [hp] at hF
 have hc := zrM n n9 (some (.im sc)) (some (.im num)) none none [some (.im fl), e4, none, none, none, none, none]
 unfold turn zjt
 generalize zjr = cc at hc ⊢
 generalize zaH = ff at hF ⊢
 generalize (List.replicate n (T.str "taker")) = rr at ht hF ⊢
 simp only [ixS] at ix0
 unfold zko at hF ⊢
 generalize ((List.range n).map fun (k : Nat) => T.tup [.int (0 + (k : Int)), .int 0, .int 0, .int 0]) = LL at hc hF ⊢
 simp [hc, ht, hF, zoL, ix0, ltS]
theorem zlf (sc fl : T) (num : Int) (e4 : Option L5.W) (n : Nat) (h : n = 23 \/ n = 24 \/ n = 25) (br : T) (fs : List T) (hf : fl = .tup (br :: fs)) (hb : zc1 br [(0, 12), (0, 12)] = true) :
  ∃ z, turn (nmG 8) zjs (.int (n : Int)) [some (.im sc), some (.im (.int num)), none, some (.im fl), e4, none, none, none, none, none]
   = some (.nx [some (.im sc), some (.im (.int num)), none, some (.im fl), e4, none, none, none, some (.im (.int (n : Int))), some (.im z)]) := by
 have ix0 : ixS fl (.int 0) = some br := by rw [hf]; simp
 have n1 : 1 <= n := by omega
 have n9 : n <= 100 := by omega
 have hp := zor n h br hb (num % 25) (by omega) (by omega)
 refine ⟨.tup [br, .tup [.str "keeper"], zhv n (num % 25 - 12), .tup []], ?_⟩
 have hF := zge (.tup [br, .tup [.str "keeper"], zhv n (num % 25 - 12), .tup []]) (szJ.f (zbF (za4 (by simp; omega)) (za4 (by simp))))
 rw [hp] at hF
 have hc := zrL n n9 num (some (.im sc)) none (some (.im fl)) e4 none none none [none]
 unfold turn zjs
 generalize zjq = cc at hc ⊢
 generalize zaH = ff at hF ⊢
 generalize (T.str "keeper") = kk at hF ⊢
 simp only [ixS] at ix0
 unfold zhv at hF ⊢
 generalize ((List.range n).map fun (k : Nat) => T.tup [.int 0, .int 0, .int (0 + (k : Int) - 12), .int (num % 25 - 12)]) = LL at hc hF ⊢
 simp [hc, hF, zoL, ix0, ltS]
theorem zmH (num : Int) (fl : T) : ∃ t, ixS (.lst [.non, .int 5, .str "floor", .tup [], .dic, .lst [fl], .tup [.tup [], .tup [], .tup [], .tup []]]) (.int (num % 7)) = some t /\ (zaD t = false /\ szJ t) := by
 have gen : ∀ z : Str, ∃ t, ixS (.lst [.non, .int 5, .str z, .tup [], .dic, .lst [fl], .tup [.tup [], .tup [], .tup [], .tup []]]) (.int (num % 7)) = some t /\ (zaD t = false /\ szJ t) := fun z => by
  refine zgS (L := [T.non, .int 5, .str z, .tup [], .dic, .lst [fl], .tup [.tup [], .tup [], .tup [], .tup []]]) (P := fun t => zaD t = false /\ szJ t) ?_ (i := num % 7) (by omega) (by simp; omega)
  intro y hy
  have n0 : zdM (.tup []) := za4 (by simp)
  simp only [List.mem_cons, List.mem_nil_iff, or_false] at hy
  rcases hy with rfl | rfl | rfl | rfl | rfl | rfl | rfl
  ·exact ⟨rfl, zgt (by simp)⟩
  ·exact ⟨rfl, zgt (by simp)⟩
  ·exact ⟨rfl, zgt (by simp)⟩
  ·exact ⟨rfl, zkw (by simp)⟩
  ·exact ⟨rfl, zgt (by simp)⟩
  ·exact ⟨rfl, zgt (by simp)⟩
  ·exact ⟨rfl, zbF n0 n0⟩
 exact gen "floor"
end K01
namespace K01
open PySem L2 L3 L5
theorem zpr {f : Ev -> Option T} {ρ : Ev} {y : T} (h : f ρ = some y) : ∃ z, zgh (retS f ρ) = some z /\ z = y := ⟨y, by show zgh ((f ρ).map .rt) = _; rw [h]; rfl, rfl⟩
theorem zhf {is : List Nat} {f : Ev -> Option (List T)} {g : T -> Ev -> Option Ev} {b : Sm} {ρ ρ' : Ev} {ts : List T} (h : f ρ = some ts) (h' : zec is g b ts ρ = some (.nx ρ')) : zhg is f g b ρ = some (.nx ρ') := by
 show (f ρ).bind _ = _; rw [h]; exact h'
set_option maxHeartbeats 4000000 in
theorem zmF (ns : List Int) (hn : ns.length <= 63) : zlY [zdL ns] = some (.bl true) := by
 have hmx := zgd ns 0 (by omega)
 obtain ⟨m0, m1⟩ := zfZ ns 0
 generalize mixed ns 0 = num at *
 obtain ⟨many, hm, hm1, hm8⟩ : ∃ k : Nat, 1 + num % 8 = (k : Int) /\ 1 <= k /\ k <= 8 := ⟨(1 + num % 8).toNat, by omega, by omega, by omega⟩
 obtain ⟨more, hmo, hmo16⟩ : ∃ k : Nat, num / 1352 % 17 = (k : Int) /\ k <= 16 := ⟨(num / 1352 % 17).toNat, by omega, by omega⟩
 have d8 : zeq num 8 := ⟨by decide, by decide⟩
 have d104 : zeq num 104 := ⟨by decide, by decide⟩
 have d1352 : zeq num 1352 := ⟨by decide, by decide⟩
 have hb : zc1 (.tup [.int (num / 8 % 13), .int (num / 104 % 13)]) [(0, 12), (0, 12)] = true := by
  have a1 : 0 <= num / 8 % 13 := by omega
  have a2 : num / 8 % 13 <= 12 := by omega
  have a3 : 0 <= num / 104 % 13 := by omega
  have a4 : num / 104 % 13 <= 12 := by omega
  generalize num / 8 % 13 = x at *
  generalize num / 104 % 13 = y at *
  simp [zc1, wh, a1, a2, a3, a4]
 obtain ⟨os, rs, qs, hF, ho, ho2, hw, hs, hr, hr24, hq, hwo⟩ := zna ns 2 many more (.tup [.int (num / 8 % 13), .int (num / 104 % 13)]) (by decide) hm1 hm8 hmo16
 have ht := zj0 hb ho hm1 hm8 ho2 hw hs
 have hr4 : ∀ r ∈ rs, ∃ a b c d, r = [a, b, c, d] := fun r h => by obtain ⟨a, b, c, d, e, _⟩ := hwo r h; exact ⟨a, b, c, d, e⟩
 have sz : szJ (.tup [.tup [.int (num / 8 % 13), .int (num / 104 % 13)], .tup os, .tup (rs.map zaV), .tup (qs.map zaV)]) := zbF (za4 (by simp; omega)) (za4 (by simp; omega))
 have f1 := zge _ sz.f
 have f2 := zjw _ sz
 rw [ht] at f1 f2
 -- the loops
 have L1 := zdh (is := [5, 6]) (g := nmG 4) (b := zju) (fun k : Nat => T.int (((30 : Nat) : Int) + (k : Int))) (fun p ρ => ∃ e4, ρ = [some (.im (zdL ns)), some (.im (.int num)), some (.im (.int many)), some (.im (.tup [.tup [.int (num / 8 % 13), .int (num / 104 % 13)], .tup os, .tup (rs.map zaV), .tup (qs.map zaV)])), e4, none, none, none, none, none])
   (List.range 32) [some (.im (zdL ns)), some (.im (.int num)), some (.im (.int many)), some (.im (.tup [.tup [.int (num / 8 % 13), .int (num / 104 % 13)], .tup os, .tup (rs.map zaV), .tup (qs.map zaV)])), none, none, none, none, none, none] ⟨none, rfl⟩ (by
  rintro p k q e ρ ⟨e4, rfl⟩
  have hk : k < 32 := List.mem_range.mp (by rw [e]; simp)
  obtain ⟨z, hz⟩ := zlh ns num many (num / 8 % 13) (num / 104 % 13) os rs qs (by omega) (by omega) hr hr24 hq hr4 k hk e4
  exact ⟨_, hz, _, rfl⟩)
 obtain ⟨ρ1, l1, e4, rfl⟩ := L1
 obtain ⟨fl, hfl⟩ : ∃ fl, fl = (T.tup [.tup [.int (num / 8 % 13), .int (num / 104 % 13)], .tup os, .tup (rs.map zaV), .tup (qs.map zaV)]) := ⟨_, rfl⟩
 rw [<- hfl] at hF ht sz f1 f2 l1
 have L2 := zdh (is := [2, 7]) (g := nmG 2) (b := zjt) (fun k : Nat => T.int (k : Int)) (fun p ρ => ρ = [some (.im (zdL ns)), some (.im (.int num)), none, some (.im fl), e4, none, none, none, none, none])
   [1, 8, 9] [some (.im (zdL ns)), some (.im (.int num)), some (.im (.int many)), some (.im fl), e4, none, none, none, none, none] rfl (by
  rintro p k q e ρ rfl
  have hk : k = 1 \/ k = 8 \/ k = 9 := by
   have : k ∈ [1, 8, 9] := by rw [e]; simp
   simpa using this
  obtain ⟨z, hz⟩ := zlg (zdL ns) (.int num) fl e4 k hk _ _ hfl hb
  exact ⟨_, hz, rfl⟩)
 obtain ⟨ρ2, l2, rfl⟩ := L2
 have L3 := zdh (is := [8, 9]) (g := nmG 8) (b := zjs) (fun k : Nat => T.int (k : Int)) (fun p ρ => ρ = [some (.im (zdL ns)), some (.im (.int num)), none, some (.im fl), e4, none, none, none, none, none])
   [23, 24, 25] [some (.im (zdL ns)), some (.im (.int num)), none, some (.im fl), e4, none, none, none, none, none] rfl (by
  rintro p k q e ρ rfl
  have hk : k = 23 \/ k = 24 \/ k = 25 := by
   have : k ∈ [23, 24, 25] := by rw [e]; simp
   simpa using this
  obtain ⟨z, hz⟩ := zlf (zdL ns) fl num e4 k hk _ _ hfl hb
  exact ⟨_, hz, rfl⟩)
 obtain ⟨ρ3, l3, rfl⟩ := L3
 obtain ⟨t, t1, t2, t3⟩ := zmH num fl
 have f3 := zge t t3.f
 rw [t2] at f3
 suffices H : ∃ z, zgh (zo4 [some (.im (zdL ns)), none, none, none, none, none, none, none, none, none]) = some z /\ z = .bl true by
  obtain ⟨z, h1, h2⟩ := H
  rw [h2] at h1
  exact h1
 unfold zo4
 refine sx (P := fun u => ∃ z, zgh u = some z /\ z = .bl true) (ρ' := [some (.im (zdL ns)), some (.im (.int num)), none, none, none, none, none, none, none, none]) (by
  simp only [zdH]; rw [show cbS zaS (zac (zaI 0) (zac (cS (.int 0)) zaq)) [some (.im (zdL ns)), none, none, none, none, none, none, none, none, none] = zaS [zdL ns, .int ((0 : Nat) : Int)] from rfl, hmx]; rfl) ?_
 refine sx (P := fun u => ∃ z, zgh u = some z /\ z = .bl true) (ρ' := [some (.im (zdL ns)), some (.im (.int num)), some (.im (.int many)), none, none, none, none, none, none, none]) (by
  simp only [zdH]; rw [zel (x := .int 1) rfl (zcm (i := num) (j := 8) rfl rfl (by decide)) (r := some (.int (1 + num % 8))) rfl, hm]; rfl) ?_
 refine sx (P := fun u => ∃ z, zgh u = some z /\ z = .bl true) (ρ' := [some (.im (zdL ns)), some (.im (.int num)), some (.im (.int many)), some (.im fl), none, none, none, none, none, none]) (by
  have hF' : zbC [zdL ns, .int 2, .int (many : Int), .tup [.int (num / 8 % 13), .int (num / 104 % 13)], .int (num / 1352 % 17)] = some fl := by rw [hmo]; exact hF
  simp only [zdH, cbS]
  rw [zaF (x := zdL ns) rfl (zaF (x := .int 2) rfl (zaF (x := .int (many : Int)) rfl (zaF (x := .tup [.int (num / 8 % 13), .int (num / 104 % 13)]) (by
   show ((zac _ (zac _ zaq)) _).bind _ = _
   rw [zaF (zcm (zeg (i := num) (j := 8) rfl rfl d8) (j := 13) rfl (by decide)) (zaF (zcm (zeg (i := num) (j := 104) rfl rfl d104) (j := 13) rfl (by decide)) rfl)]
   rfl) (zaF (zcm (zeg (i := num) (j := 1352) rfl rfl d1352) (j := 17) rfl (by decide)) (xs := []) rfl))))]
  show ((zbC [zdL ns, .int 2, .int (many : Int), .tup [.int (num / 8 % 13), .int (num / 104 % 13)], .int (num / 1352 % 17)])).map _ = _
  rw [hF']; rfl) ?_
 refine sx (P := fun u => ∃ z, zgh u = some z /\ z = .bl true) (ρ' := [some (.im (zdL ns)), some (.im (.int num)), some (.im (.int many)), some (.im fl), none, none, none, none, none, none]) (by
  clear l1 l2 l3 hF ht hw hs
  generalize zaH = ff at f1 ⊢
  generalize zbB = fj at f2 ⊢
  have is1 : isS true (.bl true) (.bl true) = some (.bl false) := rfl
  simp [f1, f2, is1]) ?_
 refine sx (P := fun u => ∃ z, zgh u = some z /\ z = .bl true) (zhf (ts := (List.range 32).map fun k : Nat => T.int (((30 : Nat) : Int) + (k : Int))) ?_ l1) ?_
 ·have := zgQ 30 62 (by decide) (by decide)
  exact this
 refine sx (P := fun u => ∃ z, zgh u = some z /\ z = .bl true) (zhf (ts := [1, 8, 9].map fun k : Nat => T.int (k : Int)) rfl l2) ?_
 refine sx (P := fun u => ∃ z, zgh u = some z /\ z = .bl true) (zhf (ts := [23, 24, 25].map fun k : Nat => T.int (k : Int)) rfl l3) ?_
 refine zpr ?_
 refine zel (x := .bl false) (y := .bl false) (cb1 (zel (x := .lst [.non, .int 5, .str "floor", .tup [], .dic, .lst [fl], .tup [.tup [], .tup [], .tup [], .tup []]]) rfl (zcm (i := num) (j := 7) rfl rfl (by decide)) t1) f3) rfl rfl
end K01
namespace K01
open PySem L2 L3 L5
open PyProof.Rows hiding St
theorem vV (i : Nat) {X : Cx} {x : Str} {pos : Pos} (h : PE X (.Name x pos) (zq7 i) := by exact pv _) : PD X (.Name x pos) (zjn i) := zpV i h
theorem iI {i : Int} : OkR (cS (.int i)) (dC (.int i)) := (znx i).fr
theorem eE {i : Int} : OkE (cS (.int i)) (dC (.int i)) := (znx i).fe
theorem nD (l : List Str) (h : l.Nodup := by decide +kernel) : l.Nodup := h
theorem hM {j k : Nat} {A : Around} (r : ze2 k A) (h : j <= k := by decide) : ze2 j A := r.mono h
theorem sS {N P : List Str} {c : Scope} (a : c.kind = .function := by rfl) (b : c.isCoroutine = false := by rfl) (d : c.isGenerator = false := by rfl) (e : N.Nodup := by decide +kernel) (f : N.take P.length = P := by rfl) (g : ∀ x ∈ P, c.names.lookup x = some .local \/ c.names.lookup x = some .cell := by decide +kernel) (h : ∀ y ∈ c.names, y.2 ≠ .free := by decide +kernel) : zaM N P c := ⟨a, b, d, e, f, g, h⟩
def top (i : Nat) : Stmt := PySem.Challenge.pw_purseborder_k01_what_is_a_floor.main.body.getD i (.Pass ⟨0, 0, 0, 0⟩)
abbrev zcC : Stmt := top 6
abbrev za8 : Stmt := top 7
abbrev zbb : Stmt := top 8
abbrev zaW : Stmt := top 9
abbrev zbx : Stmt := top 10
abbrev zcb : Stmt := top 11
abbrev zcD : Stmt := top 12
abbrev zby : Stmt := top 13
abbrev zbN : Stmt := top 14
abbrev zbp : Stmt := top 15
abbrev zcE : Stmt := top 16
abbrev zb9 : Stmt := top 18
abbrev zcB : Stmt := top 19
abbrev zbM : Stmt := top 20
abbrev zbh : Stmt := top 21
abbrev zca : Stmt := top 22
abbrev zb8 : Stmt := top 23
abbrev zdc : Stmt := top 24
abbrev zbv : Stmt := top 25
abbrev zbi : Stmt := top 26
abbrev za6 : Stmt := top 27
abbrev zde : Stmt := top 28
abbrev zdd : Stmt := top 29
abbrev zbL : Stmt := top 30
abbrev zfR : Stmt := top 31
section
variable {P : Program} {w : World} {K : PySem.W.Frag} {mg : Str -> Option Value} {base : Heap} {f : Addr} {fd : FuncData}
theorem ziz : zaM ["thing"] ["thing"] (zai zcC) := sS
theorem ziI (T : Bt mg) (U : Bq mg) (F : Fun K "is_whole" "is_whole" zcC f fd) (hm : mg "is_whole" = some (.ref f)) : FD P w K mg base "is_whole" 1 ["thing"] (spF RkF zdm) :=
 fd5 (k := 0) F hm ziz rfl (fun _ _ _ _ _ _ us hl => match us, hl with | [_], _ => rfl) fun cdv A outer s H E hr => ⟨_,
  (zam (zav (zcO (zeM T (vV 0)) (zdC (zno (zc7 T (vV 0))))))),
  (zaw (zcP ((zbJ (zah 0))).fr (znv ((zbJ (zah 0))).fr)))⟩
theorem zgM : zaM ["things"] ["things"] (zai zbx) := sS
theorem zg3 (T : Bt mg) (U : Bq mg) (F : Fun K "are_rising" "are_rising" zbx f fd) (hm : mg "are_rising" = some (.ref f)) : FD P w K mg base "are_rising" 1 ["things"] (spF RkF zbj) :=
 fd5 (k := 0) F hm zgM rfl (fun _ _ _ _ _ _ us hl => match us, hl with | [_], _ => rfl) fun cdv A outer s H E hr => ⟨_,
  (zam (zav (zdq T.all (zab (zeK (N' := ["one", "other"]) (pick := [none, none]) (csc (N := ["things"]) (esc := zai zbx)) rfl (zkW U.zip (zab (vV 0) (zab (zeJ (vV 0) (zeH zaf) zeI) zad))) (fun _ _ _ _ _ => (zkX (zcl (zbl 0 (nD ["one", "other"])) (zcl (zbl 1 (nD ["one", "other"])) zgV)))) (fun _ _ _ _ _ => zbW) (fun _ _ _ _ _ => (zkY hr (vV 0) (vV 1)))) zad)))),
  (zaw (za9 zds (zal ((zeR (zjc (zal (zah 0) (zal ((zhT (zah 0) (zeP iI) zeQ)).fr zas))) (znt (zeO (zct 0) (zeO (zct 1) zjd))) zbX ((zao zdr (zah 0) (zah 1))).fe)).fr zas)))⟩
theorem ziA : zaM ["thing"] ["thing"] (zai zcD) := sS
theorem ziJ {u_KEEPER u_TAKER : Value} (T : Bt mg) (U : Bq mg) (F : Fun K "is_owner" "is_owner" zcD f fd) (hm : mg "is_owner" = some (.ref f)) (g_KEEPER : mg "KEEPER" = some u_KEEPER) (r_KEEPER : L2.RelV (.str "keeper") u_KEEPER) (g_TAKER : mg "TAKER" = some u_TAKER) (r_TAKER : L2.RelV (.str "taker") u_TAKER) : FD P w K mg base "is_owner" 1 ["thing"] (spF RkF zeb) :=
 fd5 (k := 0) F hm ziA rfl (fun _ _ _ _ _ _ us hl => match us, hl with | [_], _ => rfl) fun cdv A outer s H E hr => ⟨_,
  (zam (zav (zcO (zeL T (vV 0)) (zdC (zoe hr (vV 0) (zax (zab (ziG g_KEEPER r_KEEPER) (zab (ziG g_TAKER r_TAKER) zad)))))))),
  (zaw (zcP ((zbJ (zah 0))).fr (zao ziP (zah 0) ((zay (zaa ((zcu _)).fe (zaa ((zcu _)).fe zae)))).fr)))⟩
theorem zdN : zaM ["_law_script", "_law_k", "_law_cell"] ["_law_script", "_law_k"] (zai zb9) := sS
theorem zhW (T : Bt mg) (U : Bq mg) (F : Fun K "_law_mixed" "_law_mixed" zb9 f fd) (hm : mg "_law_mixed" = some (.ref f)) : FD P w K mg base "_law_mixed" 1 ["_law_script", "_law_k"] (spF RkF zaS) :=
 fd5 (k := 0) F hm zdN rfl (fun _ _ _ _ _ _ us hl => match us, hl with | [_, _], _ => rfl) fun cdv A outer s H E hr => ⟨_,
  (zag (zaK 2 (zdN).nd zaf)
  (zag (zbk (zfb hr (vV 1) (za3 T.len (zab (vV 0) zad))) (zam (zaK 2 (zdN).nd (zaZ (zaO (vV 0) (vV 1)) (znn zaf zaf)))) zaB)
  (zam (zav (zbc (zaZ (zaQ (zaQ (zcM (vV 2) zaf) (zcM (zcM zaf (vV 1)) (vV 1))) (zcM zaf (vV 1))) zaf) zaf))))),
  (zan (zaR 2 eE)
  (zan (zbm (zbO (zao zdr (zah 1) ((za9 zaJ (zal (zah 0) zas))).fr).fr) (zaR 2 ((za1 ((zao zar (zah 0) (zah 1))).er ((znu iI iI)).fr)).fe) zaC)
  (zaw (zbd ((za1 ((zao good_add ((zao good_add ((zao zbZ (zah 2) iI)).fr ((zao zbZ ((zao zbZ iI (zah 1))).fr (zah 1))).fr)).fr ((zao zbZ iI (zah 1))).fr)).fr iI)).fr iI))))⟩
theorem zdo : zaM ["_law_cell", "_law_owners", "_law_found", "_law_place"] ["_law_cell", "_law_owners"] (zai zbM) := sS
theorem zg0 (T : Bt mg) (U : Bq mg) (F : Fun K "_law_stalls" "_law_stalls" zbM f fd) (hm : mg "_law_stalls" = some (.ref f)) : FD P w K mg base "_law_stalls" 1 ["_law_cell", "_law_owners"] (spF RkF zco) :=
 fd5 (k := 0) F hm zdo rfl (fun _ _ _ _ _ _ us hl => match us, hl with | [_, _], _ => rfl) fun cdv A outer s H E hr => ⟨_,
  (zag (zaK 2 (zdo).nd (zbz zad))
  (zag (zdQ PassesOwn.never rfl (zce T.range (zab (za3 T.len (zab (vV 1) zad)) zad)) (zbl 3 (nD ["_law_cell", "_law_owners", "_law_found", "_law_place"])) (zag (zbk (PDW.pt (zkV (zgU hr (zaO (vV 1) (vV 3)) zdg) (zja (zgU hr (zaZ (vV 0) zaf) zaf)))) (zam (zeG (zcN (vV 2) (zax (zab (vV 3) (zab (zaZ (zbc (vV 0) zaf) zaf) (zab (zaQ zaf (zaZ (zbc (vV 0) zaf) zaf)) (zab (zaZ (zbc (vV 0) zaf) zaf) zad)))))))) zaB)
  (zam (zaK 0 (zdo).nd (zbc (vV 0) zaf)))))
  (zam (zav (zdf T.tuple (zab (vV 2) zad)))))),
  (zan (zbD 2 (zbA zae))
  (zan (zdS (zd5 (b := true) (zal ((za9 zaJ (zal (zah 1) zas))).fr zas)) (zdD 3) (zan (zbm (zk5 (zbO (zao zb0 ((zao zar (zah 1) (zah 3))).er ((zcu _)).fr).fr) (zbO (zao zb0 ((za1 (zah 0) iI)).fr iI).fr)) (zfW 2 ((zay (zaa (zaj 3) (zaa ((za1 ((zbd (zah 0) iI)).fr iI)).fe (zaa ((zao good_add iI ((za1 ((zbd (zah 0) iI)).fr iI)).fr)).fe (zaa ((za1 ((zbd (zah 0) iI)).fr iI)).fe zae)))))).fe) zaC)
  (zaR 0 ((zbd (zah 0) iI)).fe)))
  (zaw (za9 zcF (zal (zah 2) zas)))))⟩
theorem zhG : zaM ["_law_thing", "_law_least", "_law_most"] ["_law_thing", "_law_least", "_law_most"] (zai zb8) := sS
theorem zhV (T : Bt mg) (U : Bq mg) (F : Fun K "_law_whole" "_law_whole" zb8 f fd) (hm : mg "_law_whole" = some (.ref f)) : FD P w K mg base "_law_whole" 1 ["_law_thing", "_law_least", "_law_most"] (spF RkF zaG) :=
 fd5 (k := 0) F hm zhG rfl (fun _ _ _ _ _ _ us hl => match us, hl with | [_, _, _], _ => rfl) fun cdv A outer s H E hr => ⟨_,
  (zam (zav (zcO (zeM T (vV 0)) (zcO (zno (zc7 T (vV 0))) (zcO (zod (vV 1) (vV 0)) (zdC (zod (vV 0) (vV 2)))))))),
  (zaw (zcP ((zbJ (zah 0))).fr (zcP (znv ((zbJ (zah 0))).fr) (zcP ((zos (zah 1) (zah 0))).fr (zos (zah 0) (zah 2))))))⟩
theorem zjE : zaM ["_law_thing", "_law_many"] ["_law_thing", "_law_many"] (zai zdc) := sS
theorem zjS (T : Bt mg) (U : Bq mg) (F : Fun K "_law_row" "_law_row" zdc f fd) (hm : mg "_law_row" = some (.ref f)) : FD P w K mg base "_law_row" 1 ["_law_thing", "_law_many"] (spF RkF zbe) :=
 fd5 (k := 0) F hm zjE rfl (fun _ _ _ _ _ _ us hl => match us, hl with | [_, _], _ => rfl) fun cdv A outer s H E hr => ⟨_,
  (zam (zav (zcO (za0 T (vV 0)) (zdC (zjb hr (za3 T.len (zab (vV 0) zad)) (vV 1)))))),
  (zaw (zcP ((zbJ (zah 0))).fr (zao zb0 ((za9 zaJ (zal (zah 0) zas))).fr (zah 1))))⟩
theorem zjG : zaM ["_law_number"] ["_law_number"] (zai zde) := sS
theorem zjU (T : Bt mg) (U : Bq mg) (F : Fun K "_law_odd" "_law_odd" zde f fd) (hm : mg "_law_odd" = some (.ref f)) : FD P w K mg base "_law_odd" 1 ["_law_number"] (spF RkV ze4) :=
 fd5 (k := 0) F hm zjG rfl (fun _ _ _ _ _ _ us hl => match us, hl with | [_], _ => rfl) fun cdv A outer s H E hr => ⟨_,
  (zam (zav (zaO (zbz (zab zaf (zab (zc3 zaf zaf) (zab zaf (zab zaf (zab (zc3 zaf zaf) (zab zcp (zab znp (zab zdg (zab (zax (zab zaf zad)) (zab (zbz (zab zaf zad)) (zab zaf (zab zdg (zab (zc3 zaf zaf) (zab zaf (zab zaf (zab zaf zad))))))))))))))))) (zaZ (vV 0) zaf)))),
  (zaw (zao zar ((zbA (zaa eE (zaa ((zc4 iI iI)).fe (zaa eE (zaa eE (zaa ((zc4 iI iI)).fe (zaa ((zcq _)).fe (zaa (znw).fe (zaa ((zcu _)).fe (zaa ((zay (zaa eE zae))).fe (zaa ((zbA (zaa eE zae))).fe (zaa eE (zaa ((zcu _)).fe (zaa ((zc4 iI iI)).fe (zaa eE (zaa eE (zaa eE zae)))))))))))))))))).fr ((za1 (zah 0) iI)).fr))⟩
theorem zjF : zaM ["_law_row_here", "_law_at", "_law_thing"] ["_law_row_here", "_law_at", "_law_thing"] (zai zdd) := sS
theorem zjT (T : Bt mg) (U : Bq mg) (F : Fun K "_law_put" "_law_put" zdd f fd) (hm : mg "_law_put" = some (.ref f)) : FD P w K mg base "_law_put" 1 ["_law_row_here", "_law_at", "_law_thing"] (spF RkF zbf) :=
 fd5 (k := 0) F hm zjF rfl (fun _ _ _ _ _ _ us hl => match us, hl with | [_, _, _], _ => rfl) fun cdv A outer s H E hr => ⟨_,
  (zam (zav (zaQ (zaQ (zeJ (vV 0) zeI (zeH (vV 1))) (zax (zab (vV 2) zad))) (zeJ (vV 0) (zeH (zaQ (vV 1) zaf)) zeI)))),
  (zaw (zao good_add ((zao good_add ((zhT (zah 0) zeQ (zeP (zah 1)))).fr ((zay (zaa (zaj 2) zae))).fr)).fr ((zhT (zah 0) (zeP ((zao good_add (zah 1) iI)).fr) zeQ)).fr))⟩
theorem zeA : zaM ["thing", "least", "most"] ["thing", "least", "most"] (zai za8) := sS
theorem zeS (T : Bt mg) (U : Bq mg) (F : Fun K "is_whole_within" "is_whole_within" za8 f fd) (hm : mg "is_whole_within" = some (.ref f)) (G_is_whole : FD P w K mg base "is_whole" 1 ["thing"] (spF RkF zdm)) : FD P w K mg base "is_whole_within" 2 ["thing", "least", "most"] (spF RkF zba) :=
 fd5 (k := 1) F hm zeA rfl (fun _ _ _ _ _ _ us hl => match us, hl with | [_, _, _], _ => rfl) fun cdv A outer s H E hr => ⟨_,
  (zam (zav (zcO (zap G_is_whole (hM hr) (zab (vV 0) zad)) (zdC (zrq zk2 zk2 fit_le fit_le fI0.mo fI0.mo (vV 1) (vV 0) (vV 2)))))),
  (zaw (zcP ((zat (zaa (zaj 0) zae))).fr (zqk zhe zhe (zah 1) (zah 0) (zah 2))))⟩
theorem zgN : zaM ["thing"] ["thing"] (zai zby) := sS
theorem zg4 {u_MOST_PLACES : Value} (T : Bt mg) (U : Bq mg) (F : Fun K "are_owners" "are_owners" zby f fd) (hm : mg "are_owners" = some (.ref f)) (g_MOST_PLACES : mg "MOST_PLACES" = some u_MOST_PLACES) (r_MOST_PLACES : L2.RelV (.int 8) u_MOST_PLACES) (G_is_owner : FD P w K mg base "is_owner" 1 ["thing"] (spF RkF zeb)) : FD P w K mg base "are_owners" 2 ["thing"] (spF RkF zbR) :=
 fd5 (k := 1) F hm zgN rfl (fun _ _ _ _ _ _ us hl => match us, hl with | [_], _ => rfl) fun cdv A outer s H E hr => ⟨_,
  (zag (zbk (PDW.pt (zcs (zaT (zaY (za0 T (vV 0)))) (zcd (zaT (zpU zk2 zk2 fit_le fit_le fI0.mo fI0.mo zaf (za3 T.len (zab (vV 0) zad)) (zdR g_MOST_PLACES r_MOST_PLACES)))))) (zam (zav zcp)) zaB)
  (zam (zav (zdq T.all (zab (zeK (N' := ["owner"]) (pick := [none]) (csc (N := ["thing"]) (esc := zai zby)) rfl (zcK (vV 0)) (fun _ _ _ _ _ => (zbl 0 (nD ["owner"]))) (fun _ _ _ _ _ => zbW) (fun _ _ _ _ _ => (zap G_is_owner (hM hr) (zab (vV 0) zad)))) zad))))),
  (zan (zbm (zcv (zaU (zbq ((zbJ (zah 0))).fr)) (zaU (zbO ((zqk zhe zhe iI ((za9 zaJ (zal (zah 0) zas))).fr iI)).fr))) (zaw (zcq _)) zaC)
  (zaw (za9 zds (zal ((zeR (zcx (zah 0)) (zct 0) zbX ((zat (zaa (zaj 0) zae))).fe)).fr zas))))⟩
theorem zb7 : zaM ["_law_script", "_law_at", "_law_many", "_law_more", "_law_span", "_law_found", "_law_k", "_law_number", "_law_start", "_law_coins"] ["_law_script", "_law_at", "_law_many", "_law_more", "_law_span"] (zai zcB) := sS
theorem ziH (T : Bt mg) (U : Bq mg) (F : Fun K "_law_ways" "_law_ways" zcB f fd) (hm : mg "_law_ways" = some (.ref f)) (G_law_mixed : FD P w K mg base "_law_mixed" 1 ["_law_script", "_law_k"] (spF RkF zaS)) : FD P w K mg base "_law_ways" 2 ["_law_script", "_law_at", "_law_many", "_law_more", "_law_span"] (spF RkF zdl) :=
 fd5 (k := 1) F hm zb7 rfl (fun _ _ _ _ _ _ us hl => match us, hl with | [_, _, _, _, _], _ => rfl) fun cdv A outer s H E hr => ⟨_,
  (zag (zaK 5 (zb7).nd (zbz zad))
  (zag (zdQ PassesOwn.never rfl (zce T.range (zab (zaQ (vV 2) (vV 3)) zad)) (zbl 6 (nD ["_law_script", "_law_at", "_law_many", "_law_more", "_law_span", "_law_found", "_law_k", "_law_number", "_law_start", "_law_coins"])) (zag (zaK 7 (zb7).nd (zap G_law_mixed (hM hr) (zab (vV 0) (zab (zaQ (vV 1) (vV 6)) zad))))
  (zag (zaK 8 (zb7).nd (zaZ (vV 7) (vV 2)))
  (zag (zbk (zfb hr (vV 6) (vV 2)) (zam (zaK 8 (zb7).nd (vV 6))) zaB)
  (zag (zaK 9 (zb7).nd (zbz (zab (zc3 (zaZ (zbc (vV 7) zaf) (zaQ (zcM zaf (vV 4)) zaf)) (vV 4)) (zab (zc3 (zaZ (zbc (vV 7) zaf) (zaQ (zcM zaf (vV 4)) zaf)) (vV 4)) zad))))
  (zag (zbk (zgU hr (zaZ (zbc (vV 7) zaf) zaf) zaf) (zam (zmt (vV 9) (zaZ (zbc (vV 7) zaf) zaf) zaf)) zaB)
  (zam (zeG (zcN (vV 5) (zax (zab (vV 8) (zab (zaZ (zbc (vV 7) zaf) (vV 2)) (zab (zaO (vV 9) zaf) (zab (zaO (vV 9) zaf) zad))))))))))))))
  (zam (zav (zdf T.tuple (zab (zfU hr T.sorted U.set (zab (vV 5) zad)) zad)))))),
  (zan (zbD 5 (zbA zae))
  (zan (zdS (zd5 (b := true) (zal ((zao good_add (zah 2) (zah 3))).fr zas)) (zdD 6) (zan (zaR 7 ((zat (zaa (zaj 0) (zaa ((zao good_add (zah 1) (zah 6))).fe zae)))).fe)
  (zan (zaR 8 ((za1 (zah 7) (zah 2))).fe)
  (zan (zbm (zbO (zao zdr (zah 6) (zah 2)).fr) (zaR 8 (zaj 6)) zaC)
  (zan (zbD 9 (zbA (zaa ((zc4 ((za1 ((zbd (zah 7) iI)).fr ((zao good_add ((zao zbZ iI (zah 4))).fr iI)).fr)).fr (zah 4))).fe (zaa ((zc4 ((za1 ((zbd (zah 7) iI)).fr ((zao good_add ((zao zbZ iI (zah 4))).fr iI)).fr)).fr (zah 4))).fe zae))))
  (zan (zbm (zbO (zao zb0 ((za1 ((zbd (zah 7) iI)).fr iI)).fr iI).fr) (zmz 9 ((za1 ((zbd (zah 7) iI)).fr iI)).fr eE) zaC)
  (zfW 5 ((zay (zaa (zaj 8) (zaa ((za1 ((zbd (zah 7) iI)).fr (zah 2))).fe (zaa (zao zar (zah 9) iI) (zaa (zao zar (zah 9) iI) zae)))))).fe)))))))
  (zaw (za9 zcF (zal ((za9 zeY (zal (zah 5) zas))).fr zas)))))⟩
theorem zdb : zaM ["_law_script", "_law_at", "_law_digits", "_law_mixed_here"] ["_law_script", "_law_at", "_law_digits"] (zai zbh) := sS
theorem zfd (T : Bt mg) (U : Bq mg) (F : Fun K "_law_stall_cell" "_law_stall_cell" zbh f fd) (hm : mg "_law_stall_cell" = some (.ref f)) (G_law_mixed : FD P w K mg base "_law_mixed" 1 ["_law_script", "_law_k"] (spF RkF zaS)) : FD P w K mg base "_law_stall_cell" 2 ["_law_script", "_law_at", "_law_digits"] (spF RkF zbI) :=
 fd5 (k := 1) F hm zdb rfl (fun _ _ _ _ _ _ us hl => match us, hl with | [_, _, _], _ => rfl) fun cdv A outer s H E hr => ⟨_,
  (zag (zbk (PDW.pt (zkV (zaY (vV 2)) (zja (zfb hr (vV 1) (za3 T.len (zab (vV 0) zad)))))) (zam (zav (zaZ (zaO (vV 0) (vV 1)) (znn zaf zaf)))) zaB)
  (zag (zaK 3 (zdb).nd (zap G_law_mixed (hM hr) (zab (vV 0) (zab (vV 1) zad))))
  (zam (zav (zaQ (zcM (zcM (vV 3) (vV 3)) (vV 3)) (zcM zaf (vV 3))))))),
  (zan (zbm (zk5 (zbq (zah 2)) (zbO (zao zdr (zah 1) ((za9 zaJ (zal (zah 0) zas))).fr).fr)) (zaw (za1 ((zao zar (zah 0) (zah 1))).er ((znu iI iI)).fr)) zaC)
  (zan (zaR 3 ((zat (zaa (zaj 0) (zaa (zaj 1) zae)))).fe)
  (zaw (zao good_add ((zao zbZ ((zao zbZ (zah 3) (zah 3))).fr (zah 3))).fr ((zao zbZ iI (zah 3))).fr))))⟩
theorem zfQ : zaM ["_law_thing", "_law_many"] ["_law_thing", "_law_many"] (zai zbv) := sS
theorem zfX (T : Bt mg) (U : Bq mg) (F : Fun K "_law_good_way" "_law_good_way" zbv f fd) (hm : mg "_law_good_way" = some (.ref f)) (G_law_whole : FD P w K mg base "_law_whole" 1 ["_law_thing", "_law_least", "_law_most"] (spF RkF zaG)) (G_law_row : FD P w K mg base "_law_row" 1 ["_law_thing", "_law_many"] (spF RkF zbe)) : FD P w K mg base "_law_good_way" 2 ["_law_thing", "_law_many"] (spF RkF zbH) :=
 fd5 (k := 1) F hm zfQ rfl (fun _ _ _ _ _ _ us hl => match us, hl with | [_, _], _ => rfl) fun cdv A outer s H E hr => ⟨_,
  (zag (zbk (PDW.pt (zcs (zaT (zaY (zap G_law_row (hM hr) (zab (vV 0) (zab zaf zad))))) (zcs (zaT (zaY (zap G_law_whole (hM hr) (zab (zaO (vV 0) zaf) (zab zaf (zab (zc3 (vV 1) zaf) zad)))))) (zcd (zaT (zaY (zap G_law_whole (hM hr) (zab (zaO (vV 0) zaf) (zab zaf (zab (zc3 (vV 1) zaf) zad)))))))))) (zam (zav zcp)) zaB)
  (zam (zav (zcO (zap G_law_whole (hM hr) (zab (zaO (vV 0) zaf) (zab (zhP zaf) (zab zaf zad)))) (zdC (zap G_law_whole (hM hr) (zab (zaO (vV 0) zaf) (zab (zhP zaf) (zab zaf zad))))))))),
  (zan (zbm (zcv (zaU (zbq ((zat (zaa (zaj 0) (zaa eE zae)))).fr)) (zcv (zaU (zbq ((zat (zaa (zao zar (zah 0) iI) (zaa eE (zaa ((zc4 (zah 1) iI)).fe zae))))).fr)) (zaU (zbq ((zat (zaa (zao zar (zah 0) iI) (zaa eE (zaa ((zc4 (zah 1) iI)).fe zae))))).fr)))) (zaw (zcq _)) zaC)
  (zaw (zcP ((zat (zaa (zao zar (zah 0) iI) (zaa ((zhU iI)).fe (zaa eE zae))))).fr (zat (zaa (zao zar (zah 0) iI) (zaa ((zhU iI)).fe (zaa eE zae)))))))⟩
theorem ze8 : zaM ["_law_thing", "_law_owners"] ["_law_thing", "_law_owners"] (zai zbi) := sS
theorem zfe (T : Bt mg) (U : Bq mg) (F : Fun K "_law_good_stall" "_law_good_stall" zbi f fd) (hm : mg "_law_good_stall" = some (.ref f)) (G_law_whole : FD P w K mg base "_law_whole" 1 ["_law_thing", "_law_least", "_law_most"] (spF RkF zaG)) (G_law_row : FD P w K mg base "_law_row" 1 ["_law_thing", "_law_many"] (spF RkF zbe)) : FD P w K mg base "_law_good_stall" 2 ["_law_thing", "_law_owners"] (spF RkF zbu) :=
 fd5 (k := 1) F hm ze8 rfl (fun _ _ _ _ _ _ us hl => match us, hl with | [_, _], _ => rfl) fun cdv A outer s H E hr => ⟨_,
  (zag (zbk (PDW.pt (zcs (zaT (zaY (zap G_law_row (hM hr) (zab (vV 0) (zab zaf zad))))) (zcd (zaT (zaY (zap G_law_whole (hM hr) (zab (zaO (vV 0) zaf) (zab zaf (zab (zc3 (za3 T.len (zab (vV 1) zad)) zaf) zad))))))))) (zam (zav zcp)) zaB)
  (zag (zbk (PDW.pt (zcs (zfa hr (zaO (vV 1) (zaO (vV 0) zaf)) zdg) (zcd (zaT (zaY (zap G_law_whole (hM hr) (zab (zaO (vV 0) zaf) (zab zaf (zab zaf zad))))))))) (zam (zav zcp)) zaB)
  (zam (zav (zcO (zap G_law_whole (hM hr) (zab (zaO (vV 0) zaf) (zab zaf (zab zaf zad)))) (zdC (zap G_law_whole (hM hr) (zab (zaO (vV 0) zaf) (zab zaf (zab zaf zad)))))))))),
  (zan (zbm (zcv (zaU (zbq ((zat (zaa (zaj 0) (zaa eE zae)))).fr)) (zaU (zbq ((zat (zaa (zao zar (zah 0) iI) (zaa eE (zaa ((zc4 ((za9 zaJ (zal (zah 1) zas))).fr iI)).fe zae))))).fr))) (zaw (zcq _)) zaC)
  (zan (zbm (zcv (zbO (zao zb0 ((zao zar (zah 1) ((zao zar (zah 0) iI)).er)).er ((zcu _)).fr).fr) (zaU (zbq ((zat (zaa (zao zar (zah 0) iI) (zaa eE (zaa eE zae))))).fr))) (zaw (zcq _)) zaC)
  (zaw (zcP ((zat (zaa (zao zar (zah 0) iI) (zaa eE (zaa eE zae))))).fr (zat (zaa (zao zar (zah 0) iI) (zaa eE (zaa eE zae))))))))⟩
theorem zaz : zaM ["_law_floor_here", "_law_number", "_law_brims", "_law_owners", "_law_ways_here", "_law_stalls_here", "_law_odd_here", "_law_at", "_law_way", "_law_stall", "_law_some", "_law_turned_here", "_law_spoilt"] ["_law_floor_here", "_law_number"] (zai zbL) := sS
theorem zgZ (T : Bt mg) (U : Bq mg) (F : Fun K "_law_turned" "_law_turned" zbL f fd) (hm : mg "_law_turned" = some (.ref f)) (G_law_odd : FD P w K mg base "_law_odd" 1 ["_law_number"] (spF RkV ze4)) (G_law_put : FD P w K mg base "_law_put" 1 ["_law_row_here", "_law_at", "_law_thing"] (spF RkF zbf)) : FD P w K mg base "_law_turned" 2 ["_law_floor_here", "_law_number"] (spF RkV zc6) :=
 fd5 (k := 1) F hm zaz rfl (fun _ _ _ _ _ _ us hl => match us, hl with | [_, _], _ => rfl) fun cdv A outer s H E hr => ⟨_,
  (zag (zob (vV 0) (zkX (zcl (zbl 2 (nD ["_law_floor_here", "_law_number", "_law_brims", "_law_owners", "_law_ways_here", "_law_stalls_here", "_law_odd_here", "_law_at", "_law_way", "_law_stall", "_law_some", "_law_turned_here", "_law_spoilt"])) (zcl (zbl 3 (nD ["_law_floor_here", "_law_number", "_law_brims", "_law_owners", "_law_ways_here", "_law_stalls_here", "_law_odd_here", "_law_at", "_law_way", "_law_stall", "_law_some", "_law_turned_here", "_law_spoilt"])) (zcl (zbl 4 (nD ["_law_floor_here", "_law_number", "_law_brims", "_law_owners", "_law_ways_here", "_law_stalls_here", "_law_odd_here", "_law_at", "_law_way", "_law_stall", "_law_some", "_law_turned_here", "_law_spoilt"])) (zcl (zbl 5 (nD ["_law_floor_here", "_law_number", "_law_brims", "_law_owners", "_law_ways_here", "_law_stalls_here", "_law_odd_here", "_law_at", "_law_way", "_law_stall", "_law_some", "_law_turned_here", "_law_spoilt"])) zgV))))))
  (zag (zaK 6 (zaz).nd (zap G_law_odd (hM hr) (zab (zbc (vV 1) zaf) zad)))
  (zag (zaK 7 (zaz).nd (zbc (vV 1) zaf))
  (zag (zaK 8 (zaz).nd (zaO (vV 4) (zaZ (vV 7) (za3 T.len (zab (vV 4) zad)))))
  (zag (zaK 9 (zaz).nd (zax (zab (zaZ (vV 7) (za3 T.len (zab (vV 3) zad))) (zab (zaZ (zbc (vV 7) zaf) zaf) (zab (zaQ zaf (zaZ (zbc (vV 7) zaf) zaf)) (zab (zaZ (zbc (vV 7) zaf) zaf) zad))))))
  (zag (zaK 10 (zaz).nd (zbz (zab (vV 0) (zab (zax (zab (zap G_law_put (hM hr) (zab (vV 2) (zab (zaZ (vV 7) zaf) (zab (vV 6) zad)))) (zab (vV 3) (zab (vV 4) (zab (vV 5) zad))))) (zab (zax (zab (vV 2) (zab (zaQ (vV 3) (zax (zab (vV 6) zad))) (zab (vV 4) (zab (vV 5) zad))))) zad)))))
  (zag (zaK 10 (zaz).nd (zaQ (vV 10) (zbz (zab (zax (zab (vV 2) (zab (zap G_law_put (hM hr) (zab (vV 3) (zab (zaZ (vV 7) (za3 T.len (zab (vV 3) zad))) (zab (vV 6) zad)))) (zab (vV 4) (zab (vV 5) zad))))) (zab (zax (zab (zfH T.list (zab (vV 2) zad)) (zab (vV 3) (zab (vV 4) (zab (vV 5) zad))))) zad)))))
  (zag (zaK 11 (zaz).nd (zap G_law_put (hM hr) (zab (vV 4) (zab (zaZ (vV 7) (za3 T.len (zab (vV 4) zad))) (zab (zap G_law_put (hM hr) (zab (vV 8) (zab (zaZ (zbc (vV 7) zaf) zaf) (zab (vV 6) zad)))) zad)))))
  (zag (zaK 10 (zaz).nd (zaQ (vV 10) (zbz (zab (zax (zab (vV 2) (zab (vV 3) (zab (vV 11) (zab (vV 5) zad))))) (zab (zax (zab (vV 2) (zab (vV 3) (zab (zdf T.tuple (zab (zjQ T.sorted (zab (zaQ (vV 4) (zax (zab (vV 8) zad))) zad)) zad)) (zab (vV 5) zad))))) zad)))))
  (zag (zaK 10 (zaz).nd (zaQ (vV 10) (zbz (zab (zax (zab (vV 2) (zab (vV 3) (zab (zpX (vV 4)) (zab (vV 5) zad))))) (zab (zax (zab (vV 2) (zab (vV 3) (zab (zeJ (vV 4) zeI (zeH (zhP zaf))) (zab (vV 5) zad))))) zad)))))
  (zag (zaK 10 (zaz).nd (zaQ (vV 10) (zbz (zab (zax (zab (vV 2) (zab (zeJ (vV 3) zeI (zeH (zhP zaf))) (zab (vV 4) (zab (vV 5) zad))))) zad))))
  (zag (zaK 12 (zaz).nd (zap G_law_put (hM hr) (zab (vV 9) (zab (zaZ (zbc (vV 7) zaf) zaf) (zab (vV 6) zad)))))
  (zag (zaK 10 (zaz).nd (zaQ (vV 10) (zbz (zab (zax (zab (vV 2) (zab (vV 3) (zab (vV 4) (zab (zax (zab (vV 9) zad)) zad))))) (zab (zax (zab (vV 2) (zab (vV 3) (zab (vV 4) (zab (zax (zab (vV 12) zad)) zad))))) zad)))))
  (zag (zaK 10 (zaz).nd (zaQ (vV 10) (zbz (zab (zax (zab (vV 2) (zab (vV 3) (zab (vV 4) (zab (zaQ (vV 5) (zax (zab (vV 9) zad))) zad))))) (zab (zax (zab (vV 2) (zab (vV 3) (zab (zfH T.list (zab (vV 4) zad)) (zab (vV 5) zad))))) zad)))))
  (zag (zeG (zcN (vV 10) (zax (zab (vV 2) (zab (vV 3) (zab (zax zad) (zab (zax zad) zad)))))))
  (zag (zaK 10 (zaz).nd (zaQ (vV 10) (zbz (zab (zax (zab (vV 2) (zab (zaQ (vV 3) (zax (zab zdg zad))) (zab (vV 4) (zab (vV 5) zad))))) (zab (zax (zab (vV 2) (zab (vV 3) (zab (vV 4) zad)))) zad)))))
  (zag (zaK 10 (zaz).nd (zaQ (vV 10) (zbz (zab (zaQ (vV 0) (zax (zab (zax zad) zad))) (zab (zfH T.list (zab (vV 0) zad)) zad)))))
  (zag (zeG (zcN (vV 10) (zax (zab (vV 2) (zab (vV 3) (zab (zap G_law_put (hM hr) (zab (vV 4) (zab (zaZ (vV 7) (za3 T.len (zab (vV 4) zad))) (zab (zfH T.list (zab (vV 8) zad)) zad)))) (zab (vV 5) zad)))))))
  (zam (zav (zaO (zaQ (vV 10) (zbz (zab (zax (zab (vV 2) (zab (zcM (zax (zab zdg zad)) (za3 T.len (zab (vV 3) zad))) (zab (vV 4) (zab (vV 5) zad))))) zad))) (zaZ (vV 1) zaf)))))))))))))))))))))),
  (zan (zoq (zaj 0) (zqe (zeN (zdD 2) (zeN (zdD 3) (zeN (zdD 4) (zeN (zdD 5) zmA))))))
  (zan (zaR 6 (zat (zaa ((zbd (zah 1) iI)).fe zae)))
  (zan (zaR 7 ((zbd (zah 1) iI)).fe)
  (zan (zaR 8 (zao zar (zah 4) ((za1 (zah 7) ((za9 zaJ (zal (zah 4) zas))).fr)).fr))
  (zan (zaR 9 ((zay (zaa ((za1 (zah 7) ((za9 zaJ (zal (zah 3) zas))).fr)).fe (zaa ((za1 ((zbd (zah 7) iI)).fr iI)).fe (zaa ((zao good_add iI ((za1 ((zbd (zah 7) iI)).fr iI)).fr)).fe (zaa ((za1 ((zbd (zah 7) iI)).fr iI)).fe zae)))))).fe)
  (zan (zbD 10 (zbA (zaa (zaj 0) (zaa ((zay (zaa ((zat (zaa (zaj 2) (zaa ((za1 (zah 7) iI)).fe (zaa (zaj 6) zae))))).fe (zaa (zaj 3) (zaa (zaj 4) (zaa (zaj 5) zae)))))).fe (zaa ((zay (zaa (zaj 2) (zaa ((zao good_add (zah 3) ((zay (zaa (zaj 6) zae))).fr)).fe (zaa (zaj 4) (zaa (zaj 5) zae)))))).fe zae)))))
  (zan (zbD 10 (zao good_add (zah 10) ((zbA (zaa ((zay (zaa (zaj 2) (zaa ((zat (zaa (zaj 3) (zaa ((za1 (zah 7) ((za9 zaJ (zal (zah 3) zas))).fr)).fe (zaa (zaj 6) zae))))).fe (zaa (zaj 4) (zaa (zaj 5) zae)))))).fe (zaa ((zay (zaa ((za9 zeZ (zal (zah 2) zas))).fe (zaa (zaj 3) (zaa (zaj 4) (zaa (zaj 5) zae)))))).fe zae)))).fr))
  (zan (zaR 11 ((zat (zaa (zaj 4) (zaa ((za1 (zah 7) ((za9 zaJ (zal (zah 4) zas))).fr)).fe (zaa ((zat (zaa (zaj 8) (zaa ((za1 ((zbd (zah 7) iI)).fr iI)).fe (zaa (zaj 6) zae))))).fe zae))))).fe)
  (zan (zbD 10 (zao good_add (zah 10) ((zbA (zaa ((zay (zaa (zaj 2) (zaa (zaj 3) (zaa (zaj 11) (zaa (zaj 5) zae)))))).fe (zaa ((zay (zaa (zaj 2) (zaa (zaj 3) (zaa ((za9 zcF (zal ((za9 zjZ (zal ((zao good_add (zah 4) ((zay (zaa (zaj 8) zae))).fr)).fr zas))).fr zas))).fe (zaa (zaj 5) zae)))))).fe zae)))).fr))
  (zan (zbD 10 (zao good_add (zah 10) ((zbA (zaa ((zay (zaa (zaj 2) (zaa (zaj 3) (zaa ((zqg (zah 4))).fe (zaa (zaj 5) zae)))))).fe (zaa ((zay (zaa (zaj 2) (zaa (zaj 3) (zaa ((zhT (zah 4) zeQ (zeP ((zhU iI)).fr))).fe (zaa (zaj 5) zae)))))).fe zae)))).fr))
  (zan (zbD 10 (zao good_add (zah 10) ((zbA (zaa ((zay (zaa (zaj 2) (zaa ((zhT (zah 3) zeQ (zeP ((zhU iI)).fr))).fe (zaa (zaj 4) (zaa (zaj 5) zae)))))).fe zae))).fr))
  (zan (zaR 12 ((zat (zaa (zaj 9) (zaa ((za1 ((zbd (zah 7) iI)).fr iI)).fe (zaa (zaj 6) zae))))).fe)
  (zan (zbD 10 (zao good_add (zah 10) ((zbA (zaa ((zay (zaa (zaj 2) (zaa (zaj 3) (zaa (zaj 4) (zaa ((zay (zaa (zaj 9) zae))).fe zae)))))).fe (zaa ((zay (zaa (zaj 2) (zaa (zaj 3) (zaa (zaj 4) (zaa ((zay (zaa (zaj 12) zae))).fe zae)))))).fe zae)))).fr))
  (zan (zbD 10 (zao good_add (zah 10) ((zbA (zaa ((zay (zaa (zaj 2) (zaa (zaj 3) (zaa (zaj 4) (zaa ((zao good_add (zah 5) ((zay (zaa (zaj 9) zae))).fr)).fe zae)))))).fe (zaa ((zay (zaa (zaj 2) (zaa (zaj 3) (zaa ((za9 zeZ (zal (zah 4) zas))).fe (zaa (zaj 5) zae)))))).fe zae)))).fr))
  (zan (zfW 10 ((zay (zaa (zaj 2) (zaa (zaj 3) (zaa ((zay zae)).fe (zaa ((zay zae)).fe zae)))))).fe)
  (zan (zbD 10 (zao good_add (zah 10) ((zbA (zaa ((zay (zaa (zaj 2) (zaa ((zao good_add (zah 3) ((zay (zaa ((zcu _)).fe zae))).fr)).fe (zaa (zaj 4) (zaa (zaj 5) zae)))))).fe (zaa ((zay (zaa (zaj 2) (zaa (zaj 3) (zaa (zaj 4) zae))))).fe zae)))).fr))
  (zan (zbD 10 (zao good_add (zah 10) ((zbA (zaa ((zao good_add (zah 0) ((zay (zaa ((zay zae)).fe zae))).fr)).fe (zaa ((za9 zeZ (zal (zah 0) zas))).fe zae)))).fr))
  (zan (zfW 10 ((zay (zaa (zaj 2) (zaa (zaj 3) (zaa ((zat (zaa (zaj 4) (zaa ((za1 (zah 7) ((za9 zaJ (zal (zah 4) zas))).fr)).fe (zaa ((za9 zeZ (zal (zah 8) zas))).fe zae))))).fe (zaa (zaj 5) zae)))))).fe)
  (zaw (zao zar ((zao good_add (zah 10) ((zbA (zaa ((zay (zaa (zaj 2) (zaa ((zao zbZ ((zay (zaa ((zcu _)).fe zae))).fr ((za9 zaJ (zal (zah 3) zas))).fr)).fe (zaa (zaj 4) (zaa (zaj 5) zae)))))).fe zae))).fr)).fr ((za1 (zah 1) iI)).fr))))))))))))))))))))⟩
theorem zfy : zaM ["thing", "bounds"] ["thing", "bounds"] (zai zbb) := sS
theorem zfA (T : Bt mg) (U : Bq mg) (F : Fun K "is_row_within" "is_row_within" zbb f fd) (hm : mg "is_row_within" = some (.ref f)) (G_is_whole_within : FD P w K mg base "is_whole_within" 2 ["thing", "least", "most"] (spF RkF zba)) : FD P w K mg base "is_row_within" 3 ["thing", "bounds"] (spF RkF za2) :=
 fd5 (k := 2) F hm zfy rfl (fun _ _ _ _ _ _ us hl => match us, hl with | [_, _], _ => rfl) fun cdv A outer s H E hr => ⟨_,
  (zag (zbk (PDW.pt (zcs (zaT (zaY (za0 T (vV 0)))) (zcd (zfa hr (za3 T.len (zab (vV 0) zad)) (za3 T.len (zab (vV 1) zad)))))) (zam (zav zcp)) zaB)
  (zam (zav (zdq T.all (zab (zeK (N' := ["number", "bound"]) (pick := [none, none]) (csc (N := ["thing", "bounds"]) (esc := zai zbb)) rfl (zkW U.zip (zab (vV 0) (zab (vV 1) zad))) (fun _ _ _ _ _ => (zkX (zcl (zbl 0 (nD ["number", "bound"])) (zcl (zbl 1 (nD ["number", "bound"])) zgV)))) (fun _ _ _ _ _ => zbW) (fun _ _ _ _ _ => (zap G_is_whole_within (hM hr) (zab (vV 0) (zab (zaO (vV 1) zaf) (zab (zaO (vV 1) zaf) zad)))))) zad))))),
  (zan (zbm (zcv (zaU (zbq ((zbJ (zah 0))).fr)) (zbO (zao zb0 ((za9 zaJ (zal (zah 0) zas))).fr ((za9 zaJ (zal (zah 1) zas))).fr).fr)) (zaw (zcq _)) zaC)
  (zaw (za9 zds (zal ((zeR (zjc (zal (zah 0) (zal (zah 1) zas))) (znt (zeO (zct 0) (zeO (zct 1) zjd))) zbX ((zat (zaa (zaj 0) (zaa (zao zar (zah 1) iI) (zaa (zao zar (zah 1) iI) zae))))).fe)).fr zas))))⟩
theorem zbK : zaM ["_law_script", "_law_at", "_law_many", "_law_brims", "_law_more", "_law_number", "_law_owners", "_law_place", "_law_span", "_law_stalls_here"] ["_law_script", "_law_at", "_law_many", "_law_brims", "_law_more"] (zai zca) := sS
theorem zhX (T : Bt mg) (U : Bq mg) (F : Fun K "_law_floor" "_law_floor" zca f fd) (hm : mg "_law_floor" = some (.ref f)) (G_law_mixed : FD P w K mg base "_law_mixed" 1 ["_law_script", "_law_k"] (spF RkF zaS)) (G_law_stalls : FD P w K mg base "_law_stalls" 1 ["_law_cell", "_law_owners"] (spF RkF zco)) (G_law_ways : FD P w K mg base "_law_ways" 2 ["_law_script", "_law_at", "_law_many", "_law_more", "_law_span"] (spF RkF zdl)) (G_law_stall_cell : FD P w K mg base "_law_stall_cell" 2 ["_law_script", "_law_at", "_law_digits"] (spF RkF zbI)) : FD P w K mg base "_law_floor" 3 ["_law_script", "_law_at", "_law_many", "_law_brims", "_law_more"] (spF RkF zbC) :=
 fd5 (k := 2) F hm zbK rfl (fun _ _ _ _ _ _ us hl => match us, hl with | [_, _, _, _, _], _ => rfl) fun cdv A outer s H E hr => ⟨_,
  (zag (zaK 5 (zbK).nd (zap G_law_mixed (hM hr) (zab (vV 0) (zab (vV 1) zad))))
  (zag (zaK 6 (zbK).nd (zbz zad))
  (zag (zdQ PassesOwn.never rfl (zce T.range (zab (vV 2) zad)) (zbl 7 (nD ["_law_script", "_law_at", "_law_many", "_law_brims", "_law_more", "_law_number", "_law_owners", "_law_place", "_law_span", "_law_stalls_here"])) (zam (zeG (zcN (vV 6) (zaO (zbz (zab zdg (zab zdg zad))) (zog (zpW (vV 5) (vV 7)) zaf))))))
  (zag (zaK 8 (zbK).nd (zaO (zbz (zab zaf (zab zaf (zab zaf (zab zaf zad))))) (zaZ (zbc (vV 5) zaf) zaf)))
  (zag (zaK 9 (zbK).nd (zax zad))
  (zag (zbk (zgU hr (zaZ (zbc (vV 5) zaf) zaf) zaf) (zam (zaK 9 (zbK).nd (zap G_law_stalls (hM hr) (zab (zap G_law_stall_cell (hM hr) (zab (vV 0) (zab (zaQ (vV 1) zaf) (zab (zjb hr (zaZ (zbc (vV 5) zaf) zaf) zaf) zad)))) (zab (vV 6) zad))))) zaB)
  (zam (zav (zax (zab (vV 3) (zab (zdf T.tuple (zab (vV 6) zad)) (zab (zap G_law_ways (hM hr) (zab (vV 0) (zab (zaQ (vV 1) zaf) (zab (vV 2) (zab (vV 4) (zab (vV 8) zad)))))) (zab (vV 9) zad))))))))))))),
  (zan (zaR 5 ((zat (zaa (zaj 0) (zaa (zaj 1) zae)))).fe)
  (zan (zbD 6 (zbA zae))
  (zan (zdS (zd5 (b := true) (zal (zah 2) zas)) (zdD 7) (zfW 6 (zao zar ((zbA (zaa ((zcu _)).fe (zaa ((zcu _)).fe zae)))).fr ((zot ((zqf (zah 5) (zah 7))).fr iI)).fr)))
  (zan (zaR 8 (zao zar ((zbA (zaa eE (zaa eE (zaa eE (zaa eE zae)))))).fr ((za1 ((zbd (zah 5) iI)).fr iI)).fr))
  (zan (zaR 9 ((zay zae)).fe)
  (zan (zbm (zbO (zao zb0 ((za1 ((zbd (zah 5) iI)).fr iI)).fr iI).fr) (zqd 6 (zaR 9 ((zat (zaa ((zat (zaa (zaj 0) (zaa ((zao good_add (zah 1) iI)).fe (zaa ((zao zb0 ((za1 ((zbd (zah 5) iI)).fr iI)).fr iI)).fe zae))))).fe (zaa (zaj 6) zae)))).fe)) zaC)
  (zaw (zay (zaa (zaj 3) (zaa ((za9 zcF (zal (zah 6) zas))).fe (zaa ((zat (zaa (zaj 0) (zaa ((zao good_add (zah 1) iI)).fe (zaa (zaj 2) (zaa (zaj 4) (zaa (zaj 8) zae))))))).fe (zaa (zaj 9) zae))))))))))))⟩
theorem zez : zaM ["_law_thing", "_law_owners", "_law_k"] ["_law_thing"] (zai za6) := sS
theorem zg1 (T : Bt mg) (U : Bq mg) (F : Fun K "_law_judged" "_law_judged" za6 f fd) (hm : mg "_law_judged" = some (.ref f)) (G_law_row : FD P w K mg base "_law_row" 1 ["_law_thing", "_law_many"] (spF RkF zbe)) (G_law_whole : FD P w K mg base "_law_whole" 1 ["_law_thing", "_law_least", "_law_most"] (spF RkF zaG)) (G_law_good_way : FD P w K mg base "_law_good_way" 2 ["_law_thing", "_law_many"] (spF RkF zbH)) (G_law_good_stall : FD P w K mg base "_law_good_stall" 2 ["_law_thing", "_law_owners"] (spF RkF zbu)) : FD P w K mg base "_law_judged" 3 ["_law_thing"] (spF RkF zbB) :=
 fd5 (k := 2) F hm zez rfl (fun _ _ _ _ _ _ us hl => match us, hl with | [_], _ => rfl) fun cdv A outer s H E hr => ⟨_,
  (zag (zbk (PDW.pt (zcs (zaT (zaY (zap G_law_row (hM hr) (zab (vV 0) (zab zaf zad))))) (zcd (zaT (zaY (zap G_law_row (hM hr) (zab (zaO (vV 0) zaf) (zab zaf zad)))))))) (zam (zav zcp)) zaB)
  (zag (zbk (PDW.pt (zcs (zaT (zaY (zap G_law_whole (hM hr) (zab (zaO (zaO (vV 0) zaf) zaf) (zab zaf (zab zaf zad)))))) (zcd (zaT (zaY (zap G_law_whole (hM hr) (zab (zaO (zaO (vV 0) zaf) zaf) (zab zaf (zab zaf zad))))))))) (zam (zav zcp)) zaB)
  (zag (zaK 1 (zez).nd (zaO (vV 0) zaf))
  (zag (zbk (PDW.pt (zcs (zaT (zaY (za0 T (vV 1)))) (zcs (zfb hr (za3 T.len (zab (vV 1) zad)) zaf) (zcd (znm (za3 T.len (zab (vV 1) zad)) zaf))))) (zam (zav zcp)) zaB)
  (zag (zbk (zaT (zaY (zdq T.all (zab (zeK (N' := ["_law_owner"]) (pick := [none]) (csc (N := ["_law_thing", "_law_owners", "_law_k"]) (esc := zai za6)) rfl (zcK (vV 1)) (fun _ _ _ _ _ => (zbl 0 (nD ["_law_owner"]))) (fun _ _ _ _ _ => zbW) (fun _ _ _ _ _ => (zcO (zeL T (vV 0)) (zdC (zoe hr (vV 0) (zbz (zab zdg (zab zdg zad)))))))) zad)))) (zam (zav zcp)) zaB)
  (zag (zbk (PDW.pt (zcs (zaT (zaY (za0 T (zaO (vV 0) zaf)))) (zcs (zaT (zaY (za0 T (zaO (vV 0) zaf)))) (zcd (znm (za3 T.len (zab (zaO (vV 0) zaf) zad)) zaf))))) (zam (zav zcp)) zaB)
  (zag (zbk (zaT (zaY (zdq T.all (zab (zeK (N' := ["_law_way", "_law_owners"]) (pick := [none, some 1]) (csc (N := ["_law_thing", "_law_owners", "_law_k"]) (esc := zai za6)) rfl (zcK (zaO (vV 0) zaf)) (fun _ _ _ _ _ => (zbl 0 (nD ["_law_way", "_law_owners"]))) (fun _ _ _ _ _ => zbW) (fun _ _ _ _ _ => (zap G_law_good_way (hM hr) (zab (vV 0) (zab (za3 T.len (zab (vV 1) zad)) zad))))) zad)))) (zam (zav zcp)) zaB)
  (zag (zbk (zaT (zaY (zdq T.all (zab (zeK (N' := ["_law_stall", "_law_owners"]) (pick := [none, some 1]) (csc (N := ["_law_thing", "_law_owners", "_law_k"]) (esc := zai za6)) rfl (zcK (zaO (vV 0) zaf)) (fun _ _ _ _ _ => (zbl 0 (nD ["_law_stall", "_law_owners"]))) (fun _ _ _ _ _ => zbW) (fun _ _ _ _ _ => (zap G_law_good_stall (hM hr) (zab (vV 0) (zab (vV 1) zad))))) zad)))) (zam (zav zcp)) zaB)
  (zag (zdQ PassesOwn.never rfl (zek T.range (zab zaf (zab (za3 T.len (zab (zaO (vV 0) zaf) zad)) zad))) (zbl 2 (nD ["_law_thing", "_law_owners", "_law_k"])) (zam (zbk (zaT (zfb hr (zaO (zaO (vV 0) zaf) (zc3 (vV 2) zaf)) (zaO (zaO (vV 0) zaf) (vV 2)))) (zam (zav zcp)) zaB)))
  (zag (zdQ PassesOwn.never rfl (zek T.range (zab zaf (zab (za3 T.len (zab (zaO (vV 0) zaf) zad)) zad))) (zbl 2 (nD ["_law_thing", "_law_owners", "_law_k"])) (zam (zbk (zaT (zfb hr (zaO (zaO (zaO (vV 0) zaf) (zc3 (vV 2) zaf)) zaf) (zaO (zaO (zaO (vV 0) zaf) (vV 2)) zaf))) (zam (zav zcp)) zaB)))
  (zam (zav (zjb hr (zfU hr T.sorted U.set (zab (zeK (N' := ["_law_way"]) (pick := [none]) (csc (N := ["_law_thing", "_law_owners", "_law_k"]) (esc := zai za6)) rfl (zcK (zaO (vV 0) zaf)) (fun _ _ _ _ _ => (zbl 0 (nD ["_law_way"]))) (fun _ _ _ _ _ => zbW) (fun _ _ _ _ _ => (zaO (vV 0) zaf))) zad)) (zkZ T.list T.range (zab (za3 T.len (zab (vV 1) zad)) zad))))))))))))))),
  (zan (zbm (zcv (zaU (zbq ((zat (zaa (zaj 0) (zaa eE zae)))).fr)) (zaU (zbq ((zat (zaa (zao zar (zah 0) iI) (zaa eE zae)))).fr))) (zaw (zcq _)) zaC)
  (zan (zbm (zcv (zaU (zbq ((zat (zaa (zao zar ((zao zar (zah 0) iI)).er iI) (zaa eE (zaa eE zae))))).fr)) (zaU (zbq ((zat (zaa (zao zar ((zao zar (zah 0) iI)).er iI) (zaa eE (zaa eE zae))))).fr))) (zaw (zcq _)) zaC)
  (zan (zaR 1 (zao zar (zah 0) iI))
  (zan (zbm (zcv (zaU (zbq ((zbJ (zah 1))).fr)) (zcv (zbO (zao zdr ((za9 zaJ (zal (zah 1) zas))).fr iI).fr) (zbO (zqi ((za9 zaJ (zal (zah 1) zas))).fr iI).fr))) (zaw (zcq _)) zaC)
  (zan (zbm (zaU (zbq ((za9 zds (zal ((zeR (zcx (zah 1)) (zct 0) zbX (zcP ((zbJ (zah 0))).fr ((zao ziP (zah 0) ((zbA (zaa ((zcu _)).fe (zaa ((zcu _)).fe zae)))).fr)).fe))).fr zas))).fr)) (zaw (zcq _)) zaC)
  (zan (zbm (zcv (zaU (zbq ((zbJ ((zao zar (zah 0) iI)).er)).fr)) (zcv (zaU (zbq ((zbJ ((zao zar (zah 0) iI)).er)).fr)) (zbO (zqi ((za9 zaJ (zal ((zao zar (zah 0) iI)).er zas))).fr iI).fr))) (zaw (zcq _)) zaC)
  (zan (zbm (zaU (zbq ((za9 zds (zal ((zeR (zcx ((zao zar (zah 0) iI)).er) (zct 0) zbX ((zat (zaa (zaj 0) (zaa ((za9 zaJ (zal (zah 1) zas))).fe zae)))).fe)).fr zas))).fr)) (zaw (zcq _)) zaC)
  (zan (zbm (zaU (zbq ((za9 zds (zal ((zeR (zcx ((zao zar (zah 0) iI)).er) (zct 0) zbX ((zat (zaa (zaj 0) (zaa (zaj 1) zae)))).fe)).fr zas))).fr)) (zaw (zcq _)) zaC)
  (zan (zdS (zgY (b := true) (zal iI (zal ((za9 zaJ (zal ((zao zar (zah 0) iI)).er zas))).fr zas))) (zdD 2) (zbm (zaU (zbO (zao zdr ((zao zar ((zao zar (zah 0) iI)).er ((zc4 (zah 2) iI)).fr)).er ((zao zar ((zao zar (zah 0) iI)).er (zah 2))).er).fr)) (zaw (zcq _)) zaC))
  (zan (zdS (zgY (b := true) (zal iI (zal ((za9 zaJ (zal ((zao zar (zah 0) iI)).er zas))).fr zas))) (zdD 2) (zbm (zaU (zbO (zao zdr ((zao zar ((zao zar ((zao zar (zah 0) iI)).er ((zc4 (zah 2) iI)).fr)).er iI)).er ((zao zar ((zao zar ((zao zar (zah 0) iI)).er (zah 2))).er iI)).er).fr)) (zaw (zcq _)) zaC))
  (zaw (zao zb0 ((za9 zeY (zal ((zeR (zcx ((zao zar (zah 0) iI)).er) (zct 0) zbX (zao zar (zah 0) iI))).fr zas))).fr ((za9 ziO (zal ((za9 zaJ (zal (zah 1) zas))).fr zas))).fr))))))))))))⟩
theorem zeC : zaM ["thing", "bounds"] ["thing", "bounds"] (zai zaW) := sS
theorem zeT (T : Bt mg) (U : Bq mg) (F : Fun K "are_rows_within" "are_rows_within" zaW f fd) (hm : mg "are_rows_within" = some (.ref f)) (G_is_row_within : FD P w K mg base "is_row_within" 3 ["thing", "bounds"] (spF RkF za2)) : FD P w K mg base "are_rows_within" 4 ["thing", "bounds"] (spF RkF zaN) :=
 fd5 (k := 3) F hm zeC rfl (fun _ _ _ _ _ _ us hl => match us, hl with | [_, _], _ => rfl) fun cdv A outer s H E hr => ⟨_,
  (zam (zav (zcO (za0 T (vV 0)) (zdC (zdq T.all (zab (zeK (N' := ["row", "bounds"]) (pick := [none, some 1]) (csc (N := ["thing", "bounds"]) (esc := zai zaW)) rfl (zcK (vV 0)) (fun _ _ _ _ _ => (zbl 0 (nD ["row", "bounds"]))) (fun _ _ _ _ _ => zbW) (fun _ _ _ _ _ => (zap G_is_row_within (hM hr) (zab (vV 0) (zab (vV 1) zad))))) zad)))))),
  (zaw (zcP ((zbJ (zah 0))).fr (za9 zds (zal ((zeR (zcx (zah 0)) (zct 0) zbX ((zat (zaa (zaj 0) (zaa (zaj 1) zae)))).fe)).fr zas))))⟩
theorem zhH : zaM ["thing"] ["thing"] (zai zcb) := sS
theorem zhY {u_MOST_COINS : Value} (T : Bt mg) (U : Bq mg) (F : Fun K "are_brims" "are_brims" zcb f fd) (hm : mg "are_brims" = some (.ref f)) (g_MOST_COINS : mg "MOST_COINS" = some u_MOST_COINS) (r_MOST_COINS : L2.RelV (.int 12) u_MOST_COINS) (G_is_row_within : FD P w K mg base "is_row_within" 3 ["thing", "bounds"] (spF RkF za2)) : FD P w K mg base "are_brims" 4 ["thing"] (spF RkF zcV) :=
 fd5 (k := 3) F hm zhH rfl (fun _ _ _ _ _ _ us hl => match us, hl with | [_], _ => rfl) fun cdv A outer s H E hr => ⟨_,
  (zam (zav (zap G_is_row_within (hM hr) (zab (vV 0) (zab (zax (zab (zax (zab zaf (zab (zdR g_MOST_COINS r_MOST_COINS) zad))) (zab (zax (zab zaf (zab (zdR g_MOST_COINS r_MOST_COINS) zad))) zad))) zad))))),
  (zaw (zat (zaa (zaj 0) (zaa ((zay (zaa ((zay (zaa eE (zaa eE zae)))).fe (zaa ((zay (zaa eE (zaa eE zae)))).fe zae)))).fe zae))))⟩
theorem zdp : zaM ["thing", "places", "place", "coins", "starts"] ["thing", "places"] (zai zbN) := sS
theorem ziL {u_MOST_COINS u_MOST_WAYS : Value} (T : Bt mg) (U : Bq mg) (F : Fun K "are_ways" "are_ways" zbN f fd) (hm : mg "are_ways" = some (.ref f)) (g_MOST_COINS : mg "MOST_COINS" = some u_MOST_COINS) (r_MOST_COINS : L2.RelV (.int 12) u_MOST_COINS) (g_MOST_WAYS : mg "MOST_WAYS" = some u_MOST_WAYS) (r_MOST_WAYS : L2.RelV (.int 24) u_MOST_WAYS) (G_are_rows_within : FD P w K mg base "are_rows_within" 4 ["thing", "bounds"] (spF RkF zaN)) (G_are_rising : FD P w K mg base "are_rising" 1 ["things"] (spF RkF zbj)) : FD P w K mg base "are_ways" 5 ["thing", "places"] (spF RkF zcI) :=
 fd5 (k := 4) F hm zdp rfl (fun _ _ _ _ _ _ us hl => match us, hl with | [_, _], _ => rfl) fun cdv A outer s H E hr => ⟨_,
  (zag (zaK 2 (zdp).nd (zax (zab zaf (zab (zc3 (vV 1) zaf) zad))))
  (zag (zaK 3 (zdp).nd (zax (zab (zhP (zdR g_MOST_COINS r_MOST_COINS)) (zab (zdR g_MOST_COINS r_MOST_COINS) zad))))
  (zag (zbk (zaT (zaY (zap G_are_rows_within (hM hr) (zab (vV 0) (zab (zax (zab (vV 2) (zab (vV 2) (zab (vV 3) (zab (vV 3) zad))))) zad))))) (zam (zav zcp)) zaB)
  (zag (zaK 4 (zdp).nd (zeK (N' := ["way"]) (pick := [none]) (csc (N := ["thing", "places", "place", "coins", "starts"]) (esc := zai zbN)) rfl (zcK (vV 0)) (fun _ _ _ _ _ => (zbl 0 (nD ["way"]))) (fun _ _ _ _ _ => zbW) (fun _ _ _ _ _ => (zaO (vV 0) zaf))))
  (zam (zav (zcO (zod (za3 T.len (zab (vV 0) zad)) (zdR g_MOST_WAYS r_MOST_WAYS)) (zcO (zap G_are_rising (hM hr) (zab (vV 0) zad)) (zdC (zdq T.all (zab (zeK (N' := ["start", "starts"]) (pick := [none, some 4]) (csc (N := ["thing", "places", "place", "coins", "starts"]) (esc := zai zbN)) rfl (zce T.range (zab (vV 1) zad)) (fun _ _ _ _ _ => (zbl 0 (nD ["start", "starts"]))) (fun _ _ _ _ _ => zbW) (fun _ _ _ _ _ => (zoe hr (vV 0) (vV 1)))) zad))))))))))),
  (zan (zaR 2 ((zay (zaa eE (zaa ((zc4 (zah 1) iI)).fe zae)))).fe)
  (zan (zaR 3 ((zay (zaa ((zhU iI)).fe (zaa eE zae)))).fe)
  (zan (zbm (zaU (zbq ((zat (zaa (zaj 0) (zaa ((zay (zaa (zaj 2) (zaa (zaj 2) (zaa (zaj 3) (zaa (zaj 3) zae)))))).fe zae)))).fr)) (zaw (zcq _)) zaC)
  (zan (zaR 4 ((zeR (zcx (zah 0)) (zct 0) zbX (zao zar (zah 0) iI))).fe)
  (zaw (zcP ((zos ((za9 zaJ (zal (zah 0) zas))).fr iI)).fr (zcP ((zat (zaa (zaj 0) zae))).fr (za9 zds (zal ((zeR (zd5 (b := false) (zal (zah 1) zas)) (zct 0) zbX ((zao ziP (zah 0) (zah 1))).fe)).fr zas)))))))))⟩
theorem zeB : zaM ["thing", "owners", "place"] ["thing", "owners"] (zai zbp) := sS
theorem zg2 {u_KEEPER u_MOST_COINS : Value} (T : Bt mg) (U : Bq mg) (F : Fun K "are_stalls" "are_stalls" zbp f fd) (hm : mg "are_stalls" = some (.ref f)) (g_KEEPER : mg "KEEPER" = some u_KEEPER) (r_KEEPER : L2.RelV (.str "keeper") u_KEEPER) (g_MOST_COINS : mg "MOST_COINS" = some u_MOST_COINS) (r_MOST_COINS : L2.RelV (.int 12) u_MOST_COINS) (G_are_rows_within : FD P w K mg base "are_rows_within" 4 ["thing", "bounds"] (spF RkF zaN)) (G_are_rising : FD P w K mg base "are_rising" 1 ["things"] (spF RkF zbj)) : FD P w K mg base "are_stalls" 5 ["thing", "owners"] (spF RkF zbQ) :=
 fd5 (k := 4) F hm zeB rfl (fun _ _ _ _ _ _ us hl => match us, hl with | [_, _], _ => rfl) fun cdv A outer s H E hr => ⟨_,
  (zag (zaK 2 (zeB).nd (zax (zab zaf (zab (zc3 (za3 T.len (zab (vV 1) zad)) zaf) zad))))
  (zag (zbk (zaT (zaY (zap G_are_rows_within (hM hr) (zab (vV 0) (zab (zax (zab (vV 2) (zab (zax (zab zaf (zab zaf zad))) (zab (zax (zab zaf (zab (zdR g_MOST_COINS r_MOST_COINS) zad))) (zab (zax (zab zaf (zab (zdR g_MOST_COINS r_MOST_COINS) zad))) zad))))) zad))))) (zam (zav zcp)) zaB)
  (zam (zav (zcO (zap G_are_rising (hM hr) (zab (zeK (N' := ["stall"]) (pick := [none]) (csc (N := ["thing", "owners", "place"]) (esc := zai zbp)) rfl (zcK (vV 0)) (fun _ _ _ _ _ => (zbl 0 (nD ["stall"]))) (fun _ _ _ _ _ => zbW) (fun _ _ _ _ _ => (zaO (vV 0) zaf))) zad)) (zdC (zdq T.all (zab (zeK (N' := ["stall", "owners"]) (pick := [none, some 1]) (csc (N := ["thing", "owners", "place"]) (esc := zai zbp)) rfl (zcK (vV 0)) (fun _ _ _ _ _ => (zbl 0 (nD ["stall", "owners"]))) (fun _ _ _ _ _ => zbW) (fun _ _ _ _ _ => (zjb hr (zaO (vV 1) (zaO (vV 0) zaf)) (ziG g_KEEPER r_KEEPER)))) zad)))))))),
  (zan (zaR 2 ((zay (zaa eE (zaa ((zc4 ((za9 zaJ (zal (zah 1) zas))).fr iI)).fe zae)))).fe)
  (zan (zbm (zaU (zbq ((zat (zaa (zaj 0) (zaa ((zay (zaa (zaj 2) (zaa ((zay (zaa eE (zaa eE zae)))).fe (zaa ((zay (zaa eE (zaa eE zae)))).fe (zaa ((zay (zaa eE (zaa eE zae)))).fe zae)))))).fe zae)))).fr)) (zaw (zcq _)) zaC)
  (zaw (zcP ((zat (zaa ((zeR (zcx (zah 0)) (zct 0) zbX (zao zar (zah 0) iI))).fe zae))).fr (za9 zds (zal ((zeR (zcx (zah 0)) (zct 0) zbX ((zao zb0 ((zao zar (zah 1) ((zao zar (zah 0) iI)).er)).er ((zcu _)).fr)).fe)).fr zas))))))⟩
theorem ziB : zaM ["thing"] ["thing"] (zai zcE) := sS
theorem ziK (T : Bt mg) (U : Bq mg) (F : Fun K "is_floor" "is_floor" zcE f fd) (hm : mg "is_floor" = some (.ref f)) (G_are_ways : FD P w K mg base "are_ways" 5 ["thing", "places"] (spF RkF zcI)) (G_are_stalls : FD P w K mg base "are_stalls" 5 ["thing", "owners"] (spF RkF zbQ)) (G_are_brims : FD P w K mg base "are_brims" 4 ["thing"] (spF RkF zcV)) (G_are_owners : FD P w K mg base "are_owners" 2 ["thing"] (spF RkF zbR)) : FD P w K mg base "is_floor" 6 ["thing"] (spF RkF zaH) :=
 fd5 (k := 5) F hm ziB rfl (fun _ _ _ _ _ _ us hl => match us, hl with | [_], _ => rfl) fun cdv A outer s H E hr => ⟨_,
  (zag (zbk (PDW.pt (zcs (zaT (zaY (za0 T (vV 0)))) (zcd (zfa hr (za3 T.len (zab (vV 0) zad)) zaf)))) (zam (zav zcp)) zaB)
  (zag (zbk (PDW.pt (zcs (zaT (zaY (zap G_are_brims (hM hr) (zab (zaO (vV 0) zaf) zad)))) (zcd (zaT (zaY (zap G_are_owners (hM hr) (zab (zaO (vV 0) zaf) zad))))))) (zam (zav zcp)) zaB)
  (zam (zav (zcO (zap G_are_ways (hM hr) (zab (zaO (vV 0) zaf) (zab (za3 T.len (zab (zaO (vV 0) zaf) zad)) zad))) (zdC (zap G_are_stalls (hM hr) (zab (zaO (vV 0) zaf) (zab (zaO (vV 0) zaf) zad))))))))),
  (zan (zbm (zcv (zaU (zbq ((zbJ (zah 0))).fr)) (zbO (zao zb0 ((za9 zaJ (zal (zah 0) zas))).fr iI).fr)) (zaw (zcq _)) zaC)
  (zan (zbm (zcv (zaU (zbq ((zat (zaa (zao zar (zah 0) iI) zae))).fr)) (zaU (zbq ((zat (zaa (zao zar (zah 0) iI) zae))).fr))) (zaw (zcq _)) zaC)
  (zaw (zcP ((zat (zaa (zao zar (zah 0) iI) (zaa ((za9 zaJ (zal ((zao zar (zah 0) iI)).er zas))).fe zae)))).fr (zat (zaa (zao zar (zah 0) iI) (zaa (zao zar (zah 0) iI) zae)))))))⟩
theorem zfq : zaM ["_law_script", "_law_number", "_law_many", "_law_floor_here", "_law_k", "_law_thing", "_law_found", "_law_places", "_law_most", "_law_ways_here"] ["_law_script"] (zai zfR) := sS
theorem zqh (T : Bt mg) (U : Bq mg) (F : Fun K "law" "law" zfR f fd) (G_law_mixed : FD P w K mg base "_law_mixed" 1 ["_law_script", "_law_k"] (spF RkF zaS)) (G_law_floor : FD P w K mg base "_law_floor" 3 ["_law_script", "_law_at", "_law_many", "_law_brims", "_law_more"] (spF RkF zbC)) (G_law_turned : FD P w K mg base "_law_turned" 2 ["_law_floor_here", "_law_number"] (spF RkV zc6)) (G_is_floor : FD P w K mg base "is_floor" 6 ["thing"] (spF RkF zaH)) (G_law_judged : FD P w K mg base "_law_judged" 3 ["_law_thing"] (spF RkF zbB)) : zkm P w K mg base CX0 7 f fd ["_law_script"] (upP K (spF RkF zlY)) :=
 fn5 (k := 6) F zfq rfl fun cdv A outer s H E hr => ⟨_,
  (zag (zaK 1 (zfq).nd (zap G_law_mixed (hM hr) (zab (vV 0) (zab zaf zad))))
  (zag (zaK 2 (zfq).nd (zaQ zaf (zaZ (vV 1) zaf)))
  (zag (zaK 3 (zfq).nd (zap G_law_floor (hM hr) (zab (vV 0) (zab zaf (zab (vV 2) (zab (zax (zab (zaZ (zbc (vV 1) zaf) zaf) (zab (zaZ (zbc (vV 1) zaf) zaf) zad))) (zab (zaZ (zbc (vV 1) zaf) zaf) zad)))))))
  (zag (zbk (PDW.pt (zcs (zjN (zap G_is_floor (hM hr) (zab (vV 3) zad)) zcp) (zcd (zaT (zaY (zap G_law_judged (hM hr) (zab (vV 3) zad))))))) (zam (zav zcp)) zaB)
  (zag (zdQ PassesOwn.never rfl (zek T.range (zab zaf (zab zaf zad))) (zbl 4 (nD ["_law_script", "_law_number", "_law_many", "_law_floor_here", "_law_k", "_law_thing", "_law_found", "_law_places", "_law_most", "_law_ways_here"])) (zag (zaK 5 (zfq).nd (zap G_law_turned (hM hr) (zab (vV 3) (zab (zap G_law_mixed (hM hr) (zab (vV 0) (zab (vV 4) zad))) zad))))
  (zag (zaK 6 (zfq).nd (zap G_is_floor (hM hr) (zab (vV 5) zad)))
  (zam (zbk (PDW.pt (zcs (zaT (zaY (zc7 T (vV 6)))) (zcd (zfa hr (vV 6) (zap G_law_judged (hM hr) (zab (vV 5) zad)))))) (zam (zav zcp)) zaB)))))
  (zag (zdQ PassesOwn.never rfl (zcK (zbz (zab zaf (zab zaf (zab zaf zad))))) (zbl 2 (nD ["_law_script", "_law_number", "_law_many", "_law_floor_here", "_law_k", "_law_thing", "_law_found", "_law_places", "_law_most", "_law_ways_here"])) (zag (zaK 7 (zfq).nd (zax (zab (zaO (vV 3) zaf) (zab (zcM (zax (zab zdg zad)) (vV 2)) (zab (zdf T.tuple (zab (zeK (N' := ["_law_k"]) (pick := [none]) (csc (N := ["_law_script", "_law_number", "_law_many", "_law_floor_here", "_law_k", "_law_thing", "_law_found", "_law_places", "_law_most", "_law_ways_here"]) (esc := zai zfR)) rfl (zce T.range (zab (vV 2) zad)) (fun _ _ _ _ _ => (zbl 0 (nD ["_law_k"]))) (fun _ _ _ _ _ => zbW) (fun _ _ _ _ _ => (zax (zab (vV 0) (zab zaf (zab zaf (zab zaf zad))))))) zad)) (zab (zax zad) zad))))))
  (zam (zbk (zfa hr (zap G_is_floor (hM hr) (zab (vV 7) zad)) (zkY hr (vV 2) zaf)) (zam (zav zcp)) zaB))))
  (zag (zdQ PassesOwn.never rfl (zcK (zbz (zab zaf (zab zaf (zab zaf zad))))) (zbl 8 (nD ["_law_script", "_law_number", "_law_many", "_law_floor_here", "_law_k", "_law_thing", "_law_found", "_law_places", "_law_most", "_law_ways_here"])) (zag (zaK 9 (zfq).nd (zax (zab (zaO (vV 3) zaf) (zab (zax (zab zdg zad)) (zab (zdf T.tuple (zab (zeK (N' := ["_law_k", "_law_number"]) (pick := [none, some 1]) (csc (N := ["_law_script", "_law_number", "_law_many", "_law_floor_here", "_law_k", "_law_thing", "_law_found", "_law_places", "_law_most", "_law_ways_here"]) (esc := zai zfR)) rfl (zce T.range (zab (vV 8) zad)) (fun _ _ _ _ _ => (zbl 0 (nD ["_law_k", "_law_number"]))) (fun _ _ _ _ _ => zbW) (fun _ _ _ _ _ => (zax (zab zaf (zab zaf (zab (zc3 (vV 0) zaf) (zab (zc3 (zaZ (vV 1) zaf) zaf) zad))))))) zad)) (zab (zax zad) zad))))))
  (zam (zbk (zfa hr (zap G_is_floor (hM hr) (zab (vV 9) zad)) (zkY hr (vV 8) zaf)) (zam (zav zcp)) zaB))))
  (zam (zav (zpY (zap G_is_floor (hM hr) (zab (zaO (zbz (zab znp (zab zaf (zab zdg (zab (zax zad) (zab zmv (zab (zbz (zab (vV 3) zad)) (zab (zax (zab (zax zad) (zab (zax zad) (zab (zax zad) (zab (zax zad) zad))))) zad)))))))) (zaZ (vV 1) zaf)) zad)) zcp)))))))))),
  (zan (zaR 1 ((zat (zaa (zaj 0) (zaa eE zae)))).fe)
  (zan (zaR 2 ((zao good_add iI ((za1 (zah 1) iI)).fr)).fe)
  (zan (zaR 3 ((zat (zaa (zaj 0) (zaa eE (zaa (zaj 2) (zaa ((zay (zaa ((za1 ((zbd (zah 1) iI)).fr iI)).fe (zaa ((za1 ((zbd (zah 1) iI)).fr iI)).fe zae)))).fe (zaa ((za1 ((zbd (zah 1) iI)).fr iI)).fe zae))))))).fe)
  (zan (zbm (zcv (zbO (zao zlu ((zat (zaa (zaj 3) zae))).fr ((zcq _)).fr).fr) (zaU (zbq ((zat (zaa (zaj 3) zae))).fr))) (zaw (zcq _)) zaC)
  (zan (zdS (zgY (b := true) (zal iI (zal iI zas))) (zdD 4) (zan (zaR 5 (zat (zaa (zaj 3) (zaa ((zat (zaa (zaj 0) (zaa (zaj 4) zae)))).fe zae))))
  (zan (zaR 6 ((zat (zaa (zaj 5) zae))).fe)
  (zbm (zcv (zaU (zbq ((zbJ (zah 6))).fr)) (zbO (zao zb0 (zah 6) ((zat (zaa (zaj 5) zae))).fr).fr)) (zaw (zcq _)) zaC))))
  (zan (zdS (zk3 ((zbA (zaa eE (zaa eE (zaa eE zae))))).fe) (zdD 2) (zan (zaR 7 ((zay (zaa (zao zar (zah 3) iI) (zaa ((zao zbZ ((zay (zaa ((zcu _)).fe zae))).fr (zah 2))).fe (zaa ((za9 zcF (zal ((zeR (zd5 (b := false) (zal (zah 2) zas)) (zct 0) zbX ((zay (zaa (zaj 0) (zaa eE (zaa eE (zaa eE zae)))))).fe)).fr zas))).fe (zaa ((zay zae)).fe zae)))))).fe)
  (zbm (zbO (zao zb0 ((zat (zaa (zaj 7) zae))).fr ((zao zdr (zah 2) iI)).fr).fr) (zaw (zcq _)) zaC)))
  (zan (zdS (zk3 ((zbA (zaa eE (zaa eE (zaa eE zae))))).fe) (zdD 8) (zan (zaR 9 ((zay (zaa (zao zar (zah 3) iI) (zaa ((zay (zaa ((zcu _)).fe zae))).fe (zaa ((za9 zcF (zal ((zeR (zd5 (b := false) (zal (zah 8) zas)) (zct 0) zbX ((zay (zaa eE (zaa eE (zaa ((zc4 (zah 0) iI)).fe (zaa ((zc4 ((za1 (zah 1) iI)).fr iI)).fe zae)))))).fe)).fr zas))).fe (zaa ((zay zae)).fe zae)))))).fe)
  (zbm (zbO (zao zb0 ((zat (zaa (zaj 9) zae))).fr ((zao zdr (zah 8) iI)).fr).fr) (zaw (zcq _)) zaC)))
  (zaw (zao zlu ((zat (zaa (zao zar ((zbA (zaa (znw).fe (zaa eE (zaa ((zcu _)).fe (zaa ((zay zae)).fe (zaa zqj (zaa ((zbA (zaa (zaj 3) zae))).fe (zaa ((zay (zaa ((zay zae)).fe (zaa ((zay zae)).fe (zaa ((zay zae)).fe (zaa ((zay zae)).fe zae)))))).fe zae))))))))).fr ((za1 (zah 1) iI)).fr) zae))).fr ((zcq _)).fr)))))))))⟩
end
theorem all_mk {l : PySem.W.OpenLaw} {w : World} {K : PySem.W.Frag} {h : Heap} {mg : Str -> Option Value} {fa f0 f1 f2 f3 f4 f5 f6 f7 f8 f9 f10 f11 f12 f13 f14 f15 f16 f17 f18 f19 f20 f21 f22 f23 f24 : Addr} (X : K.In h) (G : h.Ns mainGlobals mg) (hfa : mg "law" = some (.ref fa))
  {od0 an0 od1 an1 od2 an2 od3 an3 od4 an4 od5 an5 od6 an6 od7 an7 od8 an8 od9 an9 od10 an10 od11 an11 od12 an12 od13 an13 od14 an14 od15 an15 od16 an16 od17 an17 od18 an18 od19 an19 od20 an20 od21 an21 od22 an22 od23 an23 od24 an24 : Option Addr} {sl0 sl1 sl2 sl3 sl4 sl5 sl6 sl7 sl8 sl9 sl10 sl11 sl12 sl13 sl14 sl15 sl16 sl17 sl18 sl19 sl20 sl21 sl22 sl23 sl24 : Array (Option Value)} {oc0 kV0 dc0 pm0 cd0 ct0 oc1 kV1 dc1 pm1 cd1 ct1 oc2 kV2 dc2 pm2 cd2 ct2 oc3 kV3 dc3 pm3 cd3 ct3 oc4 kV4 dc4 pm4 cd4 ct4 oc5 kV5 dc5 pm5 cd5 ct5 oc6 kV6 dc6 pm6 cd6 ct6 oc7 kV7 dc7 pm7 cd7 ct7 oc8 kV8 dc8 pm8 cd8 ct8 oc9 kV9 dc9 pm9 cd9 ct9 oc10 kV10 dc10 pm10 cd10 ct10 oc11 kV11 dc11 pm11 cd11 ct11 oc12 kV12 dc12 pm12 cd12 ct12 oc13 kV13 dc13 pm13 cd13 ct13 oc14 kV14 dc14 pm14 cd14 ct14 oc15 kV15 dc15 pm15 cd15 ct15 oc16 kV16 dc16 pm16 cd16 ct16 oc17 kV17 dc17 pm17 cd17 ct17 oc18 kV18 dc18 pm18 cd18 ct18 oc19 kV19 dc19 pm19 cd19 ct19 oc20 kV20 dc20 pm20 cd20 ct20 oc21 kV21 dc21 pm21 cd21 ct21 oc22 kV22 dc22 pm22 cd22 ct22 oc23 kV23 dc23 pm23 cd23 ct23 oc24 kV24 dc24 pm24 cd24 ct24 : Value}
  (a0 : PySem.W.nsIn K mainGlobals "is_whole" = some (some (.ref f0))) (l0 : K.lookup f0 = some ⟨oc0, od0, .func (PySem.W.fnOf "is_whole" "is_whole" (zaL zcC) (zaE zcC) (zai zcC) .none kV0 dc0 pm0 an0 cd0 ct0), sl0⟩) (c0 : PySem.W.codeIn K cd0 "is_whole" = true) (k0 : PySem.W.keepIn K (.ref f0) = true)
  (a1 : PySem.W.nsIn K mainGlobals "is_whole_within" = some (some (.ref f1))) (l1 : K.lookup f1 = some ⟨oc1, od1, .func (PySem.W.fnOf "is_whole_within" "is_whole_within" (zaL za8) (zaE za8) (zai za8) .none kV1 dc1 pm1 an1 cd1 ct1), sl1⟩) (c1 : PySem.W.codeIn K cd1 "is_whole_within" = true) (k1 : PySem.W.keepIn K (.ref f1) = true)
  (a2 : PySem.W.nsIn K mainGlobals "is_row_within" = some (some (.ref f2))) (l2 : K.lookup f2 = some ⟨oc2, od2, .func (PySem.W.fnOf "is_row_within" "is_row_within" (zaL zbb) (zaE zbb) (zai zbb) .none kV2 dc2 pm2 an2 cd2 ct2), sl2⟩) (c2 : PySem.W.codeIn K cd2 "is_row_within" = true) (k2 : PySem.W.keepIn K (.ref f2) = true)
  (a3 : PySem.W.nsIn K mainGlobals "are_rows_within" = some (some (.ref f3))) (l3 : K.lookup f3 = some ⟨oc3, od3, .func (PySem.W.fnOf "are_rows_within" "are_rows_within" (zaL zaW) (zaE zaW) (zai zaW) .none kV3 dc3 pm3 an3 cd3 ct3), sl3⟩) (c3 : PySem.W.codeIn K cd3 "are_rows_within" = true) (k3 : PySem.W.keepIn K (.ref f3) = true)
  (a4 : PySem.W.nsIn K mainGlobals "are_rising" = some (some (.ref f4))) (l4 : K.lookup f4 = some ⟨oc4, od4, .func (PySem.W.fnOf "are_rising" "are_rising" (zaL zbx) (zaE zbx) (zai zbx) .none kV4 dc4 pm4 an4 cd4 ct4), sl4⟩) (c4 : PySem.W.codeIn K cd4 "are_rising" = true) (k4 : PySem.W.keepIn K (.ref f4) = true)
  (a5 : PySem.W.nsIn K mainGlobals "are_brims" = some (some (.ref f5))) (l5 : K.lookup f5 = some ⟨oc5, od5, .func (PySem.W.fnOf "are_brims" "are_brims" (zaL zcb) (zaE zcb) (zai zcb) .none kV5 dc5 pm5 an5 cd5 ct5), sl5⟩) (c5 : PySem.W.codeIn K cd5 "are_brims" = true) (k5 : PySem.W.keepIn K (.ref f5) = true)
  (a6 : PySem.W.nsIn K mainGlobals "is_owner" = some (some (.ref f6))) (l6 : K.lookup f6 = some ⟨oc6, od6, .func (PySem.W.fnOf "is_owner" "is_owner" (zaL zcD) (zaE zcD) (zai zcD) .none kV6 dc6 pm6 an6 cd6 ct6), sl6⟩) (c6 : PySem.W.codeIn K cd6 "is_owner" = true) (k6 : PySem.W.keepIn K (.ref f6) = true)
  (a7 : PySem.W.nsIn K mainGlobals "are_owners" = some (some (.ref f7))) (l7 : K.lookup f7 = some ⟨oc7, od7, .func (PySem.W.fnOf "are_owners" "are_owners" (zaL zby) (zaE zby) (zai zby) .none kV7 dc7 pm7 an7 cd7 ct7), sl7⟩) (c7 : PySem.W.codeIn K cd7 "are_owners" = true) (k7 : PySem.W.keepIn K (.ref f7) = true)
  (a8 : PySem.W.nsIn K mainGlobals "are_ways" = some (some (.ref f8))) (l8 : K.lookup f8 = some ⟨oc8, od8, .func (PySem.W.fnOf "are_ways" "are_ways" (zaL zbN) (zaE zbN) (zai zbN) .none kV8 dc8 pm8 an8 cd8 ct8), sl8⟩) (c8 : PySem.W.codeIn K cd8 "are_ways" = true) (k8 : PySem.W.keepIn K (.ref f8) = true)
  (a9 : PySem.W.nsIn K mainGlobals "are_stalls" = some (some (.ref f9))) (l9 : K.lookup f9 = some ⟨oc9, od9, .func (PySem.W.fnOf "are_stalls" "are_stalls" (zaL zbp) (zaE zbp) (zai zbp) .none kV9 dc9 pm9 an9 cd9 ct9), sl9⟩) (c9 : PySem.W.codeIn K cd9 "are_stalls" = true) (k9 : PySem.W.keepIn K (.ref f9) = true)
  (a10 : PySem.W.nsIn K mainGlobals "is_floor" = some (some (.ref f10))) (l10 : K.lookup f10 = some ⟨oc10, od10, .func (PySem.W.fnOf "is_floor" "is_floor" (zaL zcE) (zaE zcE) (zai zcE) .none kV10 dc10 pm10 an10 cd10 ct10), sl10⟩) (c10 : PySem.W.codeIn K cd10 "is_floor" = true) (k10 : PySem.W.keepIn K (.ref f10) = true)
  (a11 : PySem.W.nsIn K mainGlobals "_law_mixed" = some (some (.ref f11))) (l11 : K.lookup f11 = some ⟨oc11, od11, .func (PySem.W.fnOf "_law_mixed" "_law_mixed" (zaL zb9) (zaE zb9) (zai zb9) .none kV11 dc11 pm11 an11 cd11 ct11), sl11⟩) (c11 : PySem.W.codeIn K cd11 "_law_mixed" = true) (k11 : PySem.W.keepIn K (.ref f11) = true)
  (a12 : PySem.W.nsIn K mainGlobals "_law_ways" = some (some (.ref f12))) (l12 : K.lookup f12 = some ⟨oc12, od12, .func (PySem.W.fnOf "_law_ways" "_law_ways" (zaL zcB) (zaE zcB) (zai zcB) .none kV12 dc12 pm12 an12 cd12 ct12), sl12⟩) (c12 : PySem.W.codeIn K cd12 "_law_ways" = true) (k12 : PySem.W.keepIn K (.ref f12) = true)
  (a13 : PySem.W.nsIn K mainGlobals "_law_stalls" = some (some (.ref f13))) (l13 : K.lookup f13 = some ⟨oc13, od13, .func (PySem.W.fnOf "_law_stalls" "_law_stalls" (zaL zbM) (zaE zbM) (zai zbM) .none kV13 dc13 pm13 an13 cd13 ct13), sl13⟩) (c13 : PySem.W.codeIn K cd13 "_law_stalls" = true) (k13 : PySem.W.keepIn K (.ref f13) = true)
  (a14 : PySem.W.nsIn K mainGlobals "_law_stall_cell" = some (some (.ref f14))) (l14 : K.lookup f14 = some ⟨oc14, od14, .func (PySem.W.fnOf "_law_stall_cell" "_law_stall_cell" (zaL zbh) (zaE zbh) (zai zbh) .none kV14 dc14 pm14 an14 cd14 ct14), sl14⟩) (c14 : PySem.W.codeIn K cd14 "_law_stall_cell" = true) (k14 : PySem.W.keepIn K (.ref f14) = true)
  (a15 : PySem.W.nsIn K mainGlobals "_law_floor" = some (some (.ref f15))) (l15 : K.lookup f15 = some ⟨oc15, od15, .func (PySem.W.fnOf "_law_floor" "_law_floor" (zaL zca) (zaE zca) (zai zca) .none kV15 dc15 pm15 an15 cd15 ct15), sl15⟩) (c15 : PySem.W.codeIn K cd15 "_law_floor" = true) (k15 : PySem.W.keepIn K (.ref f15) = true)
  (a16 : PySem.W.nsIn K mainGlobals "_law_whole" = some (some (.ref f16))) (l16 : K.lookup f16 = some ⟨oc16, od16, .func (PySem.W.fnOf "_law_whole" "_law_whole" (zaL zb8) (zaE zb8) (zai zb8) .none kV16 dc16 pm16 an16 cd16 ct16), sl16⟩) (c16 : PySem.W.codeIn K cd16 "_law_whole" = true) (k16 : PySem.W.keepIn K (.ref f16) = true)
  (a17 : PySem.W.nsIn K mainGlobals "_law_row" = some (some (.ref f17))) (l17 : K.lookup f17 = some ⟨oc17, od17, .func (PySem.W.fnOf "_law_row" "_law_row" (zaL zdc) (zaE zdc) (zai zdc) .none kV17 dc17 pm17 an17 cd17 ct17), sl17⟩) (c17 : PySem.W.codeIn K cd17 "_law_row" = true) (k17 : PySem.W.keepIn K (.ref f17) = true)
  (a18 : PySem.W.nsIn K mainGlobals "_law_good_way" = some (some (.ref f18))) (l18 : K.lookup f18 = some ⟨oc18, od18, .func (PySem.W.fnOf "_law_good_way" "_law_good_way" (zaL zbv) (zaE zbv) (zai zbv) .none kV18 dc18 pm18 an18 cd18 ct18), sl18⟩) (c18 : PySem.W.codeIn K cd18 "_law_good_way" = true) (k18 : PySem.W.keepIn K (.ref f18) = true)
  (a19 : PySem.W.nsIn K mainGlobals "_law_good_stall" = some (some (.ref f19))) (l19 : K.lookup f19 = some ⟨oc19, od19, .func (PySem.W.fnOf "_law_good_stall" "_law_good_stall" (zaL zbi) (zaE zbi) (zai zbi) .none kV19 dc19 pm19 an19 cd19 ct19), sl19⟩) (c19 : PySem.W.codeIn K cd19 "_law_good_stall" = true) (k19 : PySem.W.keepIn K (.ref f19) = true)
  (a20 : PySem.W.nsIn K mainGlobals "_law_judged" = some (some (.ref f20))) (l20 : K.lookup f20 = some ⟨oc20, od20, .func (PySem.W.fnOf "_law_judged" "_law_judged" (zaL za6) (zaE za6) (zai za6) .none kV20 dc20 pm20 an20 cd20 ct20), sl20⟩) (c20 : PySem.W.codeIn K cd20 "_law_judged" = true) (k20 : PySem.W.keepIn K (.ref f20) = true)
  (a21 : PySem.W.nsIn K mainGlobals "_law_odd" = some (some (.ref f21))) (l21 : K.lookup f21 = some ⟨oc21, od21, .func (PySem.W.fnOf "_law_odd" "_law_odd" (zaL zde) (zaE zde) (zai zde) .none kV21 dc21 pm21 an21 cd21 ct21), sl21⟩) (c21 : PySem.W.codeIn K cd21 "_law_odd" = true) (k21 : PySem.W.keepIn K (.ref f21) = true)
  (a22 : PySem.W.nsIn K mainGlobals "_law_put" = some (some (.ref f22))) (l22 : K.lookup f22 = some ⟨oc22, od22, .func (PySem.W.fnOf "_law_put" "_law_put" (zaL zdd) (zaE zdd) (zai zdd) .none kV22 dc22 pm22 an22 cd22 ct22), sl22⟩) (c22 : PySem.W.codeIn K cd22 "_law_put" = true) (k22 : PySem.W.keepIn K (.ref f22) = true)
  (a23 : PySem.W.nsIn K mainGlobals "_law_turned" = some (some (.ref f23))) (l23 : K.lookup f23 = some ⟨oc23, od23, .func (PySem.W.fnOf "_law_turned" "_law_turned" (zaL zbL) (zaE zbL) (zai zbL) .none kV23 dc23 pm23 an23 cd23 ct23), sl23⟩) (c23 : PySem.W.codeIn K cd23 "_law_turned" = true) (k23 : PySem.W.keepIn K (.ref f23) = true)
  (a24 : PySem.W.nsIn K mainGlobals "law" = some (some (.ref f24))) (l24 : K.lookup f24 = some ⟨oc24, od24, .func (PySem.W.fnOf "law" "law" (zaL zfR) (zaE zfR) (zai zfR) .none kV24 dc24 pm24 an24 cd24 ct24), sl24⟩) (c24 : PySem.W.codeIn K cd24 "law" = true) (k24 : PySem.W.keepIn K (.ref f24) = true)
  {u_KEEPER : Value} (g_KEEPER : PySem.W.nsIn K mainGlobals "KEEPER" = some (some u_KEEPER)) (r_KEEPER : L2.RelV (.str "keeper") u_KEEPER)
  {u_MOST_COINS : Value} (g_MOST_COINS : PySem.W.nsIn K mainGlobals "MOST_COINS" = some (some u_MOST_COINS)) (r_MOST_COINS : L2.RelV (.int 12) u_MOST_COINS)
  {u_MOST_PLACES : Value} (g_MOST_PLACES : PySem.W.nsIn K mainGlobals "MOST_PLACES" = some (some u_MOST_PLACES)) (r_MOST_PLACES : L2.RelV (.int 8) u_MOST_PLACES)
  {u_MOST_WAYS : Value} (g_MOST_WAYS : PySem.W.nsIn K mainGlobals "MOST_WAYS" = some (some u_MOST_WAYS)) (r_MOST_WAYS : L2.RelV (.int 24) u_MOST_WAYS)
  {u_TAKER : Value} (g_TAKER : PySem.W.nsIn K mainGlobals "TAKER" = some (some u_TAKER)) (r_TAKER : L2.RelV (.str "taker") u_TAKER)
  (y0 : PySem.W.nsIn K mainGlobals "set" = some none) (y1 : PySem.W.nsIn K mainGlobals "zip" = some none) (y2 : PySem.W.nsIn K mainGlobals "enumerate" = some none)
  (z0 : PySem.W.nsIn K mainGlobals "len" = some none) (z1 : PySem.W.nsIn K mainGlobals "range" = some none) (z2 : PySem.W.nsIn K mainGlobals "any" = some none) (z3 : PySem.W.nsIn K mainGlobals "all" = some none) (z4 : PySem.W.nsIn K mainGlobals "sorted" = some none) (z5 : PySem.W.nsIn K mainGlobals "isinstance" = some none) (z6 : PySem.W.nsIn K mainGlobals "bool" = some none) (z7 : PySem.W.nsIn K mainGlobals "int" = some none) (z8 : PySem.W.nsIn K mainGlobals "str" = some none) (z9 : PySem.W.nsIn K mainGlobals "list" = some none) (z10 : PySem.W.nsIn K mainGlobals "tuple" = some none) (z11 : PySem.W.nsIn K mainGlobals "max" = some none) (z12 : PySem.W.nsIn K mainGlobals "min" = some none) :
  ∃ fd : FuncData, (∀ (s : Shared) (v : Value), BindsTo s fd ⟨[v], []⟩ [("_law_script", v)]) /\ ∀ base : Heap, K.In base -> base.Ns mainGlobals mg -> zkm l.prog w K mg base CX0 7 fa fd ["_law_script"] (upP K (spF RkF zlY)) := by
 have e := hfa.symm.trans (PySem.W.mg_of X G a24)
 cases e
 have T : Bt mg := ⟨PySem.W.mg_none_of X G z0, PySem.W.mg_none_of X G z1, PySem.W.mg_none_of X G z2, PySem.W.mg_none_of X G z3, PySem.W.mg_none_of X G z4, PySem.W.mg_none_of X G z5, PySem.W.mg_none_of X G z6, PySem.W.mg_none_of X G z7, PySem.W.mg_none_of X G z8, PySem.W.mg_none_of X G z9, PySem.W.mg_none_of X G z10, PySem.W.mg_none_of X G z11, PySem.W.mg_none_of X G z12⟩
 have U : Bq mg := ⟨PySem.W.mg_none_of X G y0, PySem.W.mg_none_of X G y1, PySem.W.mg_none_of X G y2⟩
 refine ⟨PySem.W.fnOf "law" "law" (zaL zfR) (zaE zfR) (zai zfR) .none kV24 dc24 pm24 an24 cd24 ct24, fun s v => .of_eq rfl, fun base _ _ => ?_⟩
 have G_is_whole := ziI (P := l.prog) (w := w) (base := base) T U (zbt (st := zcC) l0 c0 k0) (PySem.W.mg_of X G a0)
 have G_are_rising := zg3 (P := l.prog) (w := w) (base := base) T U (zbt (st := zbx) l4 c4 k4) (PySem.W.mg_of X G a4)
 have G_is_owner := ziJ (P := l.prog) (w := w) (base := base) T U (zbt (st := zcD) l6 c6 k6) (PySem.W.mg_of X G a6) (PySem.W.mg_of X G g_KEEPER) r_KEEPER (PySem.W.mg_of X G g_TAKER) r_TAKER
 have G_law_mixed := zhW (P := l.prog) (w := w) (base := base) T U (zbt (st := zb9) l11 c11 k11) (PySem.W.mg_of X G a11)
 have G_law_stalls := zg0 (P := l.prog) (w := w) (base := base) T U (zbt (st := zbM) l13 c13 k13) (PySem.W.mg_of X G a13)
 have G_law_whole := zhV (P := l.prog) (w := w) (base := base) T U (zbt (st := zb8) l16 c16 k16) (PySem.W.mg_of X G a16)
 have G_law_row := zjS (P := l.prog) (w := w) (base := base) T U (zbt (st := zdc) l17 c17 k17) (PySem.W.mg_of X G a17)
 have G_law_odd := zjU (P := l.prog) (w := w) (base := base) T U (zbt (st := zde) l21 c21 k21) (PySem.W.mg_of X G a21)
 have G_law_put := zjT (P := l.prog) (w := w) (base := base) T U (zbt (st := zdd) l22 c22 k22) (PySem.W.mg_of X G a22)
 have G_is_whole_within := zeS (P := l.prog) (w := w) (base := base) T U (zbt (st := za8) l1 c1 k1) (PySem.W.mg_of X G a1) G_is_whole
 have G_are_owners := zg4 (P := l.prog) (w := w) (base := base) T U (zbt (st := zby) l7 c7 k7) (PySem.W.mg_of X G a7) (PySem.W.mg_of X G g_MOST_PLACES) r_MOST_PLACES G_is_owner
 have G_law_ways := ziH (P := l.prog) (w := w) (base := base) T U (zbt (st := zcB) l12 c12 k12) (PySem.W.mg_of X G a12) G_law_mixed
 have G_law_stall_cell := zfd (P := l.prog) (w := w) (base := base) T U (zbt (st := zbh) l14 c14 k14) (PySem.W.mg_of X G a14) G_law_mixed
 have G_law_good_way := zfX (P := l.prog) (w := w) (base := base) T U (zbt (st := zbv) l18 c18 k18) (PySem.W.mg_of X G a18) G_law_whole G_law_row
 have G_law_good_stall := zfe (P := l.prog) (w := w) (base := base) T U (zbt (st := zbi) l19 c19 k19) (PySem.W.mg_of X G a19) G_law_whole G_law_row
 have G_law_turned := zgZ (P := l.prog) (w := w) (base := base) T U (zbt (st := zbL) l23 c23 k23) (PySem.W.mg_of X G a23) G_law_odd G_law_put
 have G_is_row_within := zfA (P := l.prog) (w := w) (base := base) T U (zbt (st := zbb) l2 c2 k2) (PySem.W.mg_of X G a2) G_is_whole_within
 have G_law_floor := zhX (P := l.prog) (w := w) (base := base) T U (zbt (st := zca) l15 c15 k15) (PySem.W.mg_of X G a15) G_law_mixed G_law_stalls G_law_ways G_law_stall_cell
 have G_law_judged := zg1 (P := l.prog) (w := w) (base := base) T U (zbt (st := za6) l20 c20 k20) (PySem.W.mg_of X G a20) G_law_row G_law_whole G_law_good_way G_law_good_stall
 have G_are_rows_within := zeT (P := l.prog) (w := w) (base := base) T U (zbt (st := zaW) l3 c3 k3) (PySem.W.mg_of X G a3) G_is_row_within
 have G_are_brims := zhY (P := l.prog) (w := w) (base := base) T U (zbt (st := zcb) l5 c5 k5) (PySem.W.mg_of X G a5) (PySem.W.mg_of X G g_MOST_COINS) r_MOST_COINS G_is_row_within
 have G_are_ways := ziL (P := l.prog) (w := w) (base := base) T U (zbt (st := zbN) l8 c8 k8) (PySem.W.mg_of X G a8) (PySem.W.mg_of X G g_MOST_COINS) r_MOST_COINS (PySem.W.mg_of X G g_MOST_WAYS) r_MOST_WAYS G_are_rows_within G_are_rising
 have G_are_stalls := zg2 (P := l.prog) (w := w) (base := base) T U (zbt (st := zbp) l9 c9 k9) (PySem.W.mg_of X G a9) (PySem.W.mg_of X G g_KEEPER) r_KEEPER (PySem.W.mg_of X G g_MOST_COINS) r_MOST_COINS G_are_rows_within G_are_rising
 have G_is_floor := ziK (P := l.prog) (w := w) (base := base) T U (zbt (st := zcE) l10 c10 k10) (PySem.W.mg_of X G a10) G_are_ways G_are_stalls G_are_brims G_are_owners
 exact zqh (P := l.prog) (w := w) (base := base) T U (zbt (st := zfR) l24 c24 k24) G_law_mixed G_law_floor G_law_turned G_is_floor G_law_judged
theorem walk {l : PySem.W.OpenLaw} {q : Program} {loose : List Str} {XP : (Str -> Option Value) -> Heap -> Prop} {YP : World -> Heap -> Prop} {d : DefRec} {K : Params -> PySem.W.Frag} (hn : l.most = some 63) (hdf : d.params.defaults = [])
  (hY : ∀ (w : World) (h : Heap), YP w h -> (K w.params).In h)
  (F : ∀ (w : World) (mg : Str -> Option Value) (fa : Addr) (h : Heap), (K w.params).In h -> h.Ns mainGlobals mg -> mg d.name = some (.ref fa) ->
   ∃ fd : FuncData, (∀ (s : Shared) (u : Value), BindsTo s fd ⟨[u], []⟩ [("_law_script", u)]) /\ ∀ base : Heap, (K w.params).In base -> base.Ns mainGlobals mg -> zkm l.prog w (K w.params) mg base CX0 7 fa fd ["_law_script"] (upP (K w.params) (spF RkF zlY))) :
  PySem.W.WalkO q loose XP YP l.row.toRowW d [] (fun f vs => PySem.call f vs) :=
 L2.znN (n := 63) (k := 7) (x := "_law_script") (CX := fun _ => CX0) (sp := fun w => upP (K w.params) (spF RkF zlY)) hn (by decide) hdf ⟨rfl, by decide, by decide⟩ hY F (fun _ _ a ns hl hO hS => zsH zmF hO hS hl) fun _ _ _ _ _ z => z
end K01
open PySem PySem.W PyProof.Rows
set_option maxRecDepth 100000 in
set_option maxHeartbeats 0 in
theorem PySem.Challenge.cw_purseborder_k01_what_is_a_floor_holds : PySem.Challenge.rw_purseborder_k01_what_is_a_floor.Holds := by
 w_on; o_law; k_head; (case hw => w_witness2)
 k_fill
 refine K01.walk (l := PySem.Challenge.rw_purseborder_k01_what_is_a_floor) rfl rfl (fun w h Y => PySem.W.kIn_of Y) ?F
 case F =>
  intro w mg fa h KX G hmg
  refine' K01.all_mk KX G hmg ?a0 ?l0 ?c0 ?k0 ?a1 ?l1 ?c1 ?k1 ?a2 ?l2 ?c2 ?k2 ?a3 ?l3 ?c3 ?k3 ?a4 ?l4 ?c4 ?k4 ?a5 ?l5 ?c5 ?k5 ?a6 ?l6 ?c6 ?k6 ?a7 ?l7 ?c7 ?k7 ?a8 ?l8 ?c8 ?k8 ?a9 ?l9 ?c9 ?k9 ?a10 ?l10 ?c10 ?k10 ?a11 ?l11 ?c11 ?k11 ?a12 ?l12 ?c12 ?k12 ?a13 ?l13 ?c13 ?k13 ?a14 ?l14 ?c14 ?k14 ?a15 ?l15 ?c15 ?k15 ?a16 ?l16 ?c16 ?k16 ?a17 ?l17 ?c17 ?k17 ?a18 ?l18 ?c18 ?k18 ?a19 ?l19 ?c19 ?k19 ?a20 ?l20 ?c20 ?k20 ?a21 ?l21 ?c21 ?k21 ?a22 ?l22 ?c22 ?k22 ?a23 ?l23 ?c23 ?k23 ?a24 ?l24 ?c24 ?k24 ?g_KEEPER ?r_KEEPER ?g_MOST_COINS ?r_MOST_COINS ?g_MOST_PLACES ?r_MOST_PLACES ?g_MOST_WAYS ?r_MOST_WAYS ?g_TAKER ?r_TAKER ?y0 ?y1 ?y2 ?z0 ?z1 ?z2 ?z3 ?z4 ?z5 ?z6 ?z7 ?z8 ?z9 ?z10 ?z11 ?z12
  (case a0 => k_is)
  (case l0 => k_is)
  (case c0 => k_is)
  (case k0 => k_is)
  (case a1 => k_is)
  (case l1 => k_is)
  (case c1 => k_is)
  (case k1 => k_is)
  (case a2 => k_is)
  (case l2 => k_is)
  (case c2 => k_is)
  (case k2 => k_is)
  (case a3 => k_is)
  (case l3 => k_is)
  (case c3 => k_is)
  (case k3 => k_is)
  (case a4 => k_is)
  (case l4 => k_is)
  (case c4 => k_is)
  (case k4 => k_is)
  (case a5 => k_is)
  (case l5 => k_is)
  (case c5 => k_is)
  (case k5 => k_is)
  (case a6 => k_is)
  (case l6 => k_is)
  (case c6 => k_is)
  (case k6 => k_is)
  (case a7 => k_is)
  (case l7 => k_is)
  (case c7 => k_is)
  (case k7 => k_is)
  (case a8 => k_is)
  (case l8 => k_is)
  (case c8 => k_is)
  (case k8 => k_is)
  (case a9 => k_is)
  (case l9 => k_is)
  (case c9 => k_is)
  (case k9 => k_is)
  (case a10 => k_is)
  (case l10 => k_is)
  (case c10 => k_is)
  (case k10 => k_is)
  (case a11 => k_is)
  (case l11 => k_is)
  (case c11 => k_is)
  (case k11 => k_is)
  (case a12 => k_is)
  (case l12 => k_is)
  (case c12 => k_is)
  (case k12 => k_is)
  (case a13 => k_is)
  (case l13 => k_is)
  (case c13 => k_is)
  (case k13 => k_is)
  (case a14 => k_is)
  (case l14 => k_is)
  (case c14 => k_is)
  (case k14 => k_is)
  (case a15 => k_is)
  (case l15 => k_is)
  (case c15 => k_is)
  (case k15 => k_is)
  (case a16 => k_is)
  (case l16 => k_is)
  (case c16 => k_is)
  (case k16 => k_is)
  (case a17 => k_is)
  (case l17 => k_is)
  (case c17 => k_is)
  (case k17 => k_is)
  (case a18 => k_is)
  (case l18 => k_is)
  (case c18 => k_is)
  (case k18 => k_is)
  (case a19 => k_is)
  (case l19 => k_is)
  (case c19 => k_is)
  (case k19 => k_is)
  (case a20 => k_is)
  (case l20 => k_is)
  (case c20 => k_is)
  (case k20 => k_is)
  (case a21 => k_is)
  (case l21 => k_is)
  (case c21 => k_is)
  (case k21 => k_is)
  (case a22 => k_is)
  (case l22 => k_is)
  (case c22 => k_is)
  (case k22 => k_is)
  (case a23 => k_is)
  (case l23 => k_is)
  (case c23 => k_is)
  (case k23 => k_is)
  (case a24 => k_is)
  (case l24 => k_is)
  (case c24 => k_is)
  (case k24 => k_is)
  (case g_KEEPER => k_is)
  (case r_KEEPER => exact ⟨_, rfl⟩)
  (case g_MOST_COINS => k_is)
  (case r_MOST_COINS => exact ⟨_, rfl⟩)
  (case g_MOST_PLACES => k_is)
  (case r_MOST_PLACES => exact ⟨_, rfl⟩)
  (case g_MOST_WAYS => k_is)
  (case r_MOST_WAYS => exact ⟨_, rfl⟩)
  (case g_TAKER => k_is)
  (case r_TAKER => exact ⟨_, rfl⟩)
  (case y0 => k_is)
  (case y1 => k_is)
  (case y2 => k_is)
  (case z0 => k_is)
  (case z1 => k_is)
  (case z2 => k_is)
  (case z3 => k_is)
  (case z4 => k_is)
  (case z5 => k_is)
  (case z6 => k_is)
  (case z7 => k_is)
  (case z8 => k_is)
  (case z9 => k_is)
  (case z10 => k_is)
  (case z11 => k_is)
  (case z12 => k_is)
#print axioms PySem.Challenge.cw_purseborder_k01_what_is_a_floor_holds
