import PyProof.Rows.All
import Wide.All
import OpenK.AllK
import Wide.FinOn
import Lean
import PyProof.EqAt
import PyProof.EqKinds
import PyProof.TupleCall
import PySem.SetOps
import PyProof.SetScanFacts
import PyProof.TupleKey
import PyProof.SetKind
import PyProof.SetRoads
import PyProof.IsRules
import PyProof.ZipIter
import PyProof.TupleIter
import PyProof.ListMulRoad
import PyProof.FactsAll.tuple
import PyProof.ListRange
import PySem.Challenge.RW_purseborder_k12_least_pairs
set_option Elab.async false
set_option linter.all false
set_option maxRecDepth 100000
noncomputable section
namespace L2
open PySem PySem.Spec PyProof.Rows
abbrev Key := Sum Int Str
noncomputable def keyIs : Key -> Value -> Bool
 | .inl k, v => Value.isInt k v
 | .inr x, v => Value.isStrOf x v
noncomputable def keyH (w : World) : Key -> Int
 | .inl k => hashInt k
 | .inr x => hashStr w x
theorem keyIs_shape : ∀ {k : Key} {v : Value}, keyIs k v = true -> (∃ i t, k = Sum.inl i /\ v = Value.int i t) \/ (∃ x t, k = Sum.inr x /\ v = Value.str x t)
 | .inl i, v, h => by
  obtain ⟨t, e⟩ := Value.isInt_shape (k := i) (v := v) h
  exact .inl ⟨i, t, rfl, e⟩
 | .inr x, v, h => by
  obtain ⟨t, e⟩ := Value.isStrOf_shape (x := x) (v := v) h
  exact .inr ⟨x, t, rfl, e⟩
theorem key_ll (a b : Int) : decide ((Sum.inl a : Key) = Sum.inl b) = (a == b) := by
 by_cases e : a = b
 ·subst e; simp
 ·have h : ¬ (Sum.inl a : Key) = Sum.inl b := fun q => e (Sum.inl.inj q)
  rw [decide_eq_false h]
  exact (beq_eq_false_iff_ne.mpr e).symm
theorem key_rr (a b : Str) : decide ((Sum.inr a : Key) = Sum.inr b) = decide (a = b) := by
 by_cases e : a = b
 ·subst e; simp
 ·have h : ¬ (Sum.inr a : Key) = Sum.inr b := fun q => e (Sum.inr.inj q)
  rw [decide_eq_false h, decide_eq_false e]
theorem key_lr (a : Int) (b : Str) : decide ((Sum.inl a : Key) = Sum.inr b) = false := decide_eq_false (fun q => nomatch q)
theorem key_rl (a : Str) (b : Int) : decide ((Sum.inr a : Key) = Sum.inl b) = false := decide_eq_false (fun q => nomatch q)
noncomputable def mixKind (prog : Program) (w : World) : PySem.KeyKind prog w Key where
 is := keyIs
 hash := keyH w
 inj := fun v a b ha hb => by
  rcases keyIs_shape ha with ⟨i, t, rfl, rfl⟩ | ⟨x, t, rfl, rfl⟩
  ·rcases keyIs_shape hb with ⟨j, u, rfl, e⟩ | ⟨y, u, rfl, e⟩
   ·injection e with e1 _; rw [e1]
   ·exact nomatch e
  ·rcases keyIs_shape hb with ⟨j, u, rfl, e⟩ | ⟨y, u, rfl, e⟩
   ·exact nomatch e
   ·injection e with e1 _; rw [e1]
 byValue := fun k v h => by
  rcases keyIs_shape h with ⟨i, t, rfl, rfl⟩ | ⟨x, t, rfl, rfl⟩ <;> rfl
 pyHash := fun hv h => by
  rcases keyIs_shape hv with ⟨i, t, rfl, rfl⟩ | ⟨x, t, rfl, rfl⟩
  ·exact wpAny_pyHash_int h
  ·exact wpAny_pyHash_str h
 eqBool := fun hu hv h => by
  rcases keyIs_shape hu with ⟨i, t, rfl, rfl⟩ | ⟨x, t, rfl, rfl⟩
  ·rcases keyIs_shape hv with ⟨j, u, rfl, rfl⟩ | ⟨y, u, rfl, rfl⟩
   ·rw [key_ll] at h; exact wpAny_eqBool_int h
   ·rw [key_lr] at h; exact SeqAt.EqAt.int_str i t y u _ _ _ _ h
  ·rcases keyIs_shape hv with ⟨j, u, rfl, rfl⟩ | ⟨y, u, rfl, rfl⟩
   ·rw [key_rl] at h; exact SeqAt.EqAt.str_int x t j u _ _ _ _ h
   ·rw [key_rr] at h; exact wpAny_eqBool_str h
 «strs» := fun k x t v h => by
  rcases keyIs_shape h with ⟨i, u, rfl, e⟩ | ⟨y, u, rfl, e⟩
  ·exact nomatch e
  ·injection e with e1 _
   subst e1
   cases v <;> rfl
end L2
namespace L2
open PySem PySem.Spec PyProof.Rows
inductive V where
 | non | bl (b : Bool) | int (i : Int) | str (x : Str) | byt (b : Array UInt8) | flt (b : UInt64) | ref (a : Addr) | ty (n : String)
 deriving DecidableEq
noncomputable def RelV : V -> Value -> Prop
 | .non, u => u = Value.none
 | .bl b, u => u = Value.bool b
 | .int i, u => ∃ t, u = Value.int i t
 | .str x, u => ∃ t, u = Value.str x t
 | .byt b, u => ∃ t, u = Value.bytes b t
 | .flt b, u => ∃ t, u = Value.float b t
 | .ref a, u => u = Value.ref a
 | .ty n, u => u = Value.type n
abbrev Vals : List V -> List Value -> Prop := Paired RelV
theorem Vals.length {xs : List V} {us : List Value} (r : Vals xs us) : xs.length = us.length := Paired.length r
theorem Vals.get : ∀ {xs : List V} {us : List Value} {i : Nat} {x : V}, Vals xs us -> xs[i]? = some x -> ∃ u, us[i]? = some u /\ RelV x u
 | _, _, _, _, .nil, e => by simp at e
 | _, _, 0, _, .cons r _, e => by simp at e; subst e; exact ⟨_, rfl, r⟩
 | _, _, i + 1, x, .cons _ t, e => by
  obtain ⟨u, h1, h2⟩ := Vals.get (i := i) (x := x) t (by simpa using e)
  exact ⟨u, by simpa using h1, h2⟩
theorem Vals.append : ∀ {xs ys : List V} {us ws : List Value}, Vals xs us -> Vals ys ws -> Vals (xs ++ ys) (us ++ ws)
 | _, _, _, _, .nil, s => s
 | _, _, _, _, .cons r t, s => .cons r (Vals.append t s)
noncomputable def RelO : Option V -> Option Value -> Prop
 | some v, some u => RelV v u
 | none, none => True
 | _, _ => False
def KV {κ : Type} : List (κ × V) -> List (κ × Value) -> Prop := Paired fun (p : κ × V) (q : κ × Value) => p.1 = q.1 /\ RelV p.2 q.2
noncomputable def kV : Key -> V
 | .inl i => .int i
 | .inr x => .str x
inductive HO where
 /-- a list -/
 | lst (xs : List V)
 /-- a tuple (never changes) -/
 | tup (xs : List V)
 /-- a dict whose keys are ints and texts; one whose keys are tuples of ints and texts (the empty one is both) -/
 | dK (kvs : List (Key × V)) | dT (kvs : List (List Key × V))
 /-- a set of ints: its members, its size -/
 | set (S : Int -> Bool) (n : Nat)
 /-- an instance of the class at C, its dict at dx, its attributes -/
 | ins (C dx : Addr) (fs : List (Str × V))
 /-- the dict of the instance at x -/
 | own (x : Addr)
 /-- the dict of an exception -/
 | xd (fs : List (Str × V))
 /-- a bound method, f of x -/
 | met (f x : Addr)
 /-- a range object lo, lo + 1, .. below hi -/
 | rng (lo hi : Int)
 /-- a thing that is known to the object (the script; a dict while a loop walks it): read, never written while it is so -/
 | frz (o : Obj) (u : HO)
 /-- a code object's table -/
 | tbl (ps : Array Value)
 /-- any other thing, by what is true of its one object (a def of one's own: SetO a S n := HO.ext fun h => ..) -/
 | ext (φ : Heap -> Prop)
abbrev Hp := Addr -> Option HO
noncomputable def upd (H : Hp) (a : Addr) (o : HO) : Hp := fun b => if b = a then some o else H b
theorem upd_same {H : Hp} {a : Addr} {o : HO} : upd H a o a = some o := by unfold upd; rw [if_pos rfl]
theorem upd_ne {H : Hp} {a b : Addr} {o : HO} (h : b ≠ a) : upd H a o b = H b := by unfold upd; rw [if_neg h]
theorem ne_of {H : Hp} {a b : Addr} {o u : HO} (h : H a = some o) (h' : H b = some u) (d : o ≠ u) : a ≠ b := by
 intro e; subst e; rw [h] at h'; exact d (Option.some.inj h')
theorem ne_of_none {H : Hp} {a b : Addr} {o : HO} (h : H a = some o) (h' : H b = none) : a ≠ b := by
 intro e; subst e; rw [h] at h'; cases h'
section
variable (P : Program) (w : World)
noncomputable def ObjOk (H : Hp) (h : Heap) (a : Addr) : HO -> Prop
 | .lst xs => xs.length <= sizeLine /\ ∃ (its : List Value) (n : Nat), Vals xs its /\ h.get? a = some { cls := .type "list", data := .seq its.toArray n }
 | .tup xs => xs.length <= sizeLine /\ ∃ its : List Value, Vals xs its /\ IsTup h a its.toArray
 | .dK kvs => kvs.length <= sizeLine /\ (a == sysModules) = false /\ ∃ vs, KV kvs vs /\ h.DictOf (mixKind P w) a vs
 | .dT kvs => kvs.length <= sizeLine /\ (a == sysModules) = false /\ ∃ xs : List (List Key × Addr × Value),
   Paired (fun (p : List Key × V) (q : List Key × Addr × Value) => p.1 = q.1 /\ H q.2.1 = some (.tup (p.1.map kV)) /\ RelV p.2 q.2.2) kvs xs /\
   ∃ o es ep, h.get? a = some o /\ o.ExactDict /\ o.data = .dict es ep /\ es.toList = xs.map (entryOfKey (tupleKind (mixKind P w))) /\ (xs.map (·.1)).Nodup
 | .set S n => h.SetOf (intKind P w) a S n
 | .ins C dx fs => H dx = some (.own a) /\ fs.length <= 1000 /\ dx ≠ a /\ h.get? a = some (PySem.W.instObj C dx) /\
   ∃ mA, h.Ns1 dx mA /\ (∀ f, RelO (fs.lookup f) (mA f)) /\ PySem.Within mA (fs.map (·.1))
 | .own _ => ∃ o, h.get? a = some o
 | .xd fs => ∃ mA, h.Ns1 a mA /\ ∀ f, RelO (fs.lookup f) (mA f)
 | .rng lo hi => ∃ t u v, h.get? a = some { cls := .type "range", data := .fields #[.int lo t, .int hi u, .int 1 v] }
 | .frz o u => h.get? a = some o /\ ObjOk H h a u
 | .tbl ps => h.get? a = some { cls := .none, data := .fields ps }
 | .met f x => h.get? a = some (PySem.W.methodObj (.ref f) (.ref x))
 | .ext φ => φ h /\ (∃ o, h.get? a = some o) /\ ∀ h1 h2 : Heap, φ h1 -> (∀ o, h1.get? a = some o -> h2.get? a = some o) -> φ h2
def HOk (H : Hp) (h : Heap) : Prop := ∀ a o, H a = some o -> ObjOk P w H h a o
end
section
variable {P : Program} {w : World} {H H' : Hp} {h h' : Heap} {a : Addr} {o : HO}
theorem ObjOk.lt (x : ObjOk P w H h a o) : a < h.objs.size := by
 cases o with
 | lst xs => obtain ⟨_, _, _, _, e⟩ := x; exact Heap.lt_size e
 | tup xs => obtain ⟨_, _, _, p⟩ := x; exact p.lt
 | dK kvs => obtain ⟨_, _, _, _, o, _, _, e, _⟩ := x; exact Heap.lt_size e
 | dT kvs => obtain ⟨_, _, _, _, o, _, _, e, _⟩ := x; exact Heap.lt_size e
 | set S n => obtain ⟨o, _, _, _, e, _⟩ := x; exact Heap.lt_size e
 | ins C dx fs => obtain ⟨_, _, _, e, _⟩ := x; exact Heap.lt_size e
 | own y => obtain ⟨_, e⟩ := x; exact Heap.lt_size e
 | xd fs => obtain ⟨_, ⟨_, _, _, e, _⟩, _⟩ := x; exact Heap.lt_size e
 | rng lo hi => obtain ⟨_, _, _, e⟩ := x; exact Heap.lt_size e
 | frz ob u => obtain ⟨e, _⟩ := x; exact Heap.lt_size e
 | tbl ps => exact Heap.lt_size (show h.get? a = some _ from x)
 | met f y => exact Heap.lt_size (show h.get? a = some _ from x)
 | ext φ => obtain ⟨_, ⟨_, e⟩, _⟩ := x; exact Heap.lt_size e
theorem Paired.mapP {α β : Type} {F G : α -> β -> Prop} : ∀ {l₁ : List α} {l₂ : List β}, Paired F l₁ l₂ -> (∀ a b, F a b -> G a b) -> Paired G l₁ l₂
 | _, _, .nil, _ => .nil
 | _, _, .cons r t, f => .cons (f _ _ r) (Paired.mapP t f)
theorem ObjOk.stay (x : ObjOk P w H h a o) (k : ∀ b u, (b = a \/ H b = some (.own a)) -> h.get? b = some u -> h'.get? b = some u)
  (ho : ∀ b, H b = some (.own a) -> H' b = some (.own a)) (ht : ∀ b xs, H b = some (.tup xs) -> H' b = some (.tup xs)) : ObjOk P w H' h' a o := by
 induction o with
 | lst xs => obtain ⟨z, its, n, r, e⟩ := x; exact ⟨z, its, n, r, k _ _ (.inl rfl) e⟩
 | tup xs => obtain ⟨z, its, r, ob, e, c⟩ := x; exact ⟨z, its, r, ob, k _ _ (.inl rfl) e, c⟩
 | dK kvs => obtain ⟨z, y, vs, r, ob, es, ep, e, c⟩ := x; exact ⟨z, y, vs, r, ob, es, ep, k _ _ (.inl rfl) e, c⟩
 | dT kvs =>
  obtain ⟨z, y, xs, r, ob, es, ep, e, c⟩ := x
  exact ⟨z, y, xs, Paired.mapP r fun p q z => ⟨z.1, ht _ _ z.2.1, z.2.2⟩, ob, es, ep, k _ _ (.inl rfl) e, c⟩
 | set S n => obtain ⟨ob, es, ep, t, e, c⟩ := x; exact ⟨ob, es, ep, t, k _ _ (.inl rfl) e, c⟩
 | ins C dx fs =>
  obtain ⟨d, z, ne, e, mA, ⟨od, es, ep, e2, c⟩, r⟩ := x
  exact ⟨ho _ d, z, ne, k _ _ (.inl rfl) e, mA, ⟨od, es, ep, k _ _ (.inr d) e2, c⟩, r⟩
 | own y => obtain ⟨ob, e⟩ := x; exact ⟨ob, k _ _ (.inl rfl) e⟩
 | xd fs => obtain ⟨mA, ⟨od, es, ep, e, c⟩, r⟩ := x; exact ⟨mA, ⟨od, es, ep, k _ _ (.inl rfl) e, c⟩, r⟩
 | rng lo hi => obtain ⟨t, u, v, e⟩ := x; exact ⟨t, u, v, k _ _ (.inl rfl) e⟩
 | frz ob u ih => obtain ⟨e, q⟩ := x; exact ⟨k _ _ (.inl rfl) e, ih q⟩
 | tbl ps =>
  have e : h.get? a = some { cls := .none, data := .fields ps } := x
  show h'.get? a = some { cls := .none, data := .fields ps }
  exact k a _ (.inl rfl) e
 | met f y =>
  have e : h.get? a = some (PySem.W.methodObj (.ref f) (.ref y)) := x
  show h'.get? a = some (PySem.W.methodObj (.ref f) (.ref y))
  exact k a _ (.inl rfl) e
 | ext φ => obtain ⟨p, ⟨o, e⟩, st⟩ := x; exact ⟨st _ _ p fun o q => k _ _ (.inl rfl) q, ⟨o, k _ _ (.inl rfl) e⟩, st⟩
theorem HOk.lt (x : HOk P w H h) (e : H a = some o) : a < h.objs.size := (x a o e).lt
theorem HOk.fresh (x : HOk P w H h) (e : h.objs.size <= a) : H a = none := by
 cases q : H a with
 | none => rfl
 | some u => exact absurd (Nat.lt_of_lt_of_le (x.lt q) e) (Nat.lt_irrefl _)
theorem HOk.kept (x : HOk P w H h) (k : ∀ b u, h.get? b = some u -> h'.get? b = some u) : HOk P w H h' := fun a o e =>
 (x a o e).stay (fun b u _ q => k b u q) (fun _ q => q) fun _ _ q => q
theorem HOk.laid (x : HOk P w H h) (k : ∀ b u, h.get? b = some u -> h'.get? b = some u) (hp : h.objs.size <= a) (new : ObjOk P w (upd H a o) h' a o) : HOk P w (upd H a o) h' := fun b u e => by
 have hn := x.fresh hp
 by_cases hb : b = a
 ·subst hb; rw [upd_same] at e; cases e; exact new
 ·rw [upd_ne hb] at e
  exact (x b u e).stay (fun c v _ q => k c v q) (fun c q => by rw [upd_ne (ne_of_none q hn)]; exact q) fun c xs q => by rw [upd_ne (ne_of_none q hn)]; exact q
end
def Rd (H : Hp) (a : Addr) (u : HO) : Prop := H a = some u \/ ∃ o, H a = some (.frz o u)
theorem Rd.ok {P : Program} {w : World} {H : Hp} {h : Heap} {a : Addr} {u : HO} (r : Rd H a u) (x : HOk P w H h) : ObjOk P w H h a u := by
 rcases r with r | ⟨o, r⟩
 ·exact x a u r
 ·obtain ⟨_, q⟩ := x a _ r
  exact q
noncomputable def Mut : Option HO -> Prop
 | some (.lst _) => True
 | some (.dK _) => True
 | some (.dT _) => True
 | some (.set _ _) => True
 | some (.ins _ _ _) => True
 | some (.ext _) => True
 | _ => False
section
variable {P : Program} {w : World} {H : Hp} {h h' : Heap} {x e : Addr} {o' : HO}
theorem HOk.write (ok : HOk P w H h) (mu : Mut (H x)) (he : e = x \/ H e = some (.own x)) (k : ∀ b u, b ≠ e -> h.get? b = some u -> h'.get? b = some u) (heo : ∃ u, h'.get? e = some u)
  (new : ObjOk P w (upd H x o') h' x o') : HOk P w (upd H x o') h' := fun b u q => by
 have nown : ∀ c y, H c = some (.own y) -> c ≠ x := fun c y r z => by subst z; rw [r] at mu; exact mu
 have ntup : ∀ c xs, H c = some (.tup xs) -> c ≠ x := fun c xs r z => by subst z; rw [r] at mu; exact mu
 by_cases hb : b = x
 ·subst hb; rw [upd_same] at q; cases q; exact new
 ·rw [upd_ne hb] at q
  by_cases hbe : b = e
  ·have q' : H b = some (.own x) := by
    rcases he with z | z
    ·exact absurd (hbe.trans z) hb
    ·rw [hbe]; exact z
   rw [q] at q'; cases q'
   obtain ⟨v, hv⟩ := heo
   exact ⟨v, by rw [hbe]; exact hv⟩
  ·refine (ok b u q).stay (fun c v hc r => k c v ?_ r) (fun c r => by rw [upd_ne (nown c b r)]; exact r) fun c xs r => by rw [upd_ne (ntup c xs r)]; exact r
   rcases hc with rfl | hc
   ·exact hbe
   ·rintro rfl
    rcases he with z | z
    ·exact nown c b hc z
    ·rw [hc] at z; cases z; exact hb rfl
end
structure Un (fs ex : List Addr) (H H' : Hp) (h h' : Heap) : Prop where
 keep : ∀ b o, h.get? b = some o -> H b = none -> b ∉ fs -> b ∉ ex -> h'.get? b = some o
 slot : ∀ b o, h.get? b = some o -> H b = none -> b ∈ fs -> b ∉ ex -> ∃ sl, h'.get? b = some { o with slots := sl }
 free : ∀ b o, h.get? b = some o -> H b = none -> b ∉ ex -> H' b = none
 there : ∀ b o, h.get? b = some o -> b ∉ ex -> ∃ o', h'.get? b = some o'
 tups : ∀ b xs, H b = some (.tup xs) -> H' b = some (.tup xs)
 frzs : ∀ b o u, H b = some (.frz o u) -> H' b = some (.frz o u)
 tbls : ∀ b ps, H b = some (.tbl ps) -> ∃ more, H' b = some (.tbl (ps ++ more))
section
variable {fs fs' ex ex' : List Addr} {H H1 H2 : Hp} {h h1 h2 h' : Heap} {a x e : Addr} {o : HO}
theorem Un.any (u : Un fs ex H H1 h h1) {b : Addr} {ob : Obj} (q : h.get? b = some ob) (n : H b = none) (hx : b ∉ ex) : ∃ sl, h1.get? b = some { ob with slots := sl } := by
 by_cases hb : b ∈ fs
 ·exact u.slot b ob q n hb hx
 ·exact ⟨ob.slots, u.keep b ob q n hb hx⟩
theorem Un.kept (k : ∀ b u, h.get? b = some u -> h'.get? b = some u) : Un fs ex H H h h' :=
 ⟨fun b ob q _ _ _ => k b ob q, fun b ob q _ _ _ => ⟨ob.slots, k b ob q⟩, fun _ _ _ n _ => n, fun b ob q _ => ⟨ob, k b ob q⟩, fun _ _ q => q, fun _ _ _ q => q, fun _ ps q => ⟨#[], by rw [q]; simp⟩⟩
theorem Un.refl : Un fs ex H H h h := Un.kept fun _ _ q => q
theorem Un.laid (k : ∀ b u, h.get? b = some u -> h'.get? b = some u) (hp : h.objs.size <= a) (hn : H a = none) : Un fs ex H (upd H a o) h h' where
 keep := fun b u q _ _ _ => k b u q
 slot := fun b u q _ _ _ => ⟨u.slots, k b u q⟩
 free := fun b u q n _ => by rw [upd_ne (Nat.ne_of_lt (Nat.lt_of_lt_of_le (Heap.lt_size q) hp))]; exact n
 there := fun b u q _ => ⟨u, k b u q⟩
 tups := fun b xs q => by rw [upd_ne (ne_of_none q hn)]; exact q
 frzs := fun b u xs q => by rw [upd_ne (ne_of_none q hn)]; exact q
 tbls := fun b ps q => ⟨#[], by rw [upd_ne (ne_of_none q hn), q]; simp⟩
theorem Un.write (mu : Mut (H x)) (he : e = x \/ H e = some (.own x)) (k : ∀ b u, b ≠ e -> h.get? b = some u -> h'.get? b = some u) (heo : ∃ u, h'.get? e = some u) : Un fs ex H (upd H x o) h h' := by
 have hx : ∀ b, H b = none -> b ≠ x := fun b n z => by subst z; rw [n] at mu; exact mu
 have hb : ∀ b, H b = none -> b ≠ e := fun b n z => by
  subst z
  rcases he with r | r
  ·exact hx b n r
  ·rw [n] at r; cases r
 have hm : ∀ b u, H b = some u -> ¬ Mut (some u) -> b ≠ x := fun b u q nm z => by subst z; rw [q] at mu; exact nm mu
 refine ⟨fun b u q n _ _ => k b u (hb b n) q, fun b u q n _ _ => ⟨u.slots, k b u (hb b n) q⟩, fun b u q n _ => by rw [upd_ne (hx b n)]; exact n, fun b u q _ => ?_,
  fun b xs q => by rw [upd_ne (hm b _ q fun z => z)]; exact q, fun b u xs q => by rw [upd_ne (hm b _ q fun z => z)]; exact q, fun b ps q => ⟨#[], by rw [upd_ne (hm b _ q fun z => z), q]; simp⟩⟩
 by_cases hbe : b = e
 ·subst hbe; exact heo
 ·exact ⟨u, k b u hbe q⟩
end
noncomputable def trk (h : Heap) (H : Hp) : List Addr := (List.range h.objs.size).filter fun a => (H a).isSome
noncomputable def hidT (h : Heap) (H : Hp) : Heap := PySem.W.hideAll h (trk h H)
theorem hidT_size (h : Heap) (H : Hp) : (hidT h H).objs.size = h.objs.size := PySem.W.hideAll_size _ _
theorem hidT_get {h : Heap} {H : Hp} {b : Addr} {o : Obj} (e : h.get? b = some o) (n : H b = none) : (hidT h H).get? b = some o :=
 PySem.W.hideAll_get _ e fun hm => by
  have q : (H b).isSome = true := (List.mem_filter.mp hm).2
  rw [n] at q; simp at q
theorem of_hidT {h : Heap} {H : Hp} {b : Addr} {o : Obj} (e : (hidT h H).get? b = some o) : h.get? b = some o /\ H b = none := by
 have e' : h.get? b = some o := PySem.W.of_hideAll (trk h H) e
 refine ⟨e', ?_⟩
 cases q : H b with
 | none => rfl
 | some x =>
  have hm : b ∈ trk h H := List.mem_filter.mpr ⟨List.mem_range.mpr (Heap.lt_size e'), by simp [q]⟩
  have z : (hidT h H).get? b = none := PySem.W.hideAll_none (trk h H) hm
  rw [z] at e; cases e
end L2
namespace L2
open PySem PySem.Spec PyProof.Rows
structure Mod (K : PySem.W.Frag) (mg : Str -> Option Value) (base : Heap) : Prop where
 kin : K.In base
 glob : base.Ns mainGlobals mg
 blt : ∃ mb, base.Ns builtinsNs mb /\ ∀ x : Str, x ≠ "__name__" -> mb x = bootBuiltins x
 nolimit : base.NoLimit
structure Cx where
 prog : Program
 w : World
 K : PySem.W.Frag
 mg : Str -> Option Value
 base : Heap
 A : Around
 N : List Str
 s₀ : Shared
 H₀ : Hp
 env : Env
 outer : List Env
 stack : List Env
 ex : List Addr
 fn : Str -> Bool
 calm : Bool
 pn : List (Addr × Obj)
 xe : Value -> Shared -> Prop
noncomputable def frs (l : List Env) : List Addr := l.filterMap (·.frame)
abbrev Cx.fs (X : Cx) : List Addr := frs X.outer
def Vis (sc : Scope) (x : Str) : Prop := sc.names.lookup x = some .local \/ sc.names.lookup x = some .cell \/ sc.names.lookup x = some .free
def Loc (sc : Scope) (x : Str) : Prop := sc.names.lookup x = some .local \/ sc.names.lookup x = some .cell
def Look (env : Env) (h : Heap) (m : Str -> Option Value) (x : Str) (u : Value) : Prop :=
 (env.kindOf x = some .local /\ m x = some u) \/ ((env.kindOf x = some .cell \/ env.kindOf x = some .free) /\ ∃ c, env.cells.lookup x = some c /\ h.IsCell c (some u))
structure Cx.Ok (X : Cx) : Prop where
 mod : Mod X.K X.mg X.base
 kind : X.env.scope.kind = .function
 glob : X.env.globals = mainGlobals
 blt : X.env.builtins = builtinsNs
 above : X.s₀.heap.objs.size <= X.env.locals
 inj : ∀ x y c, X.env.cells.lookup x = some c -> X.env.cells.lookup y = some c -> x = y
 has : ∀ x, (X.env.kindOf x = some .cell \/ X.env.kindOf x = some .free) -> ∃ c, X.env.cells.lookup x = some c
 cab : ∀ x c, X.fn x = true -> X.env.cells.lookup x = some c -> X.s₀.heap.objs.size <= c
 hd : X.calm = true -> X.A.handled = none
 frames : X.A.frames = some X.stack
 stk : X.stack = X.outer \/ (X.stack = X.env :: X.outer /\ X.env.frame = some X.env.locals)
 exf : ∀ b ∈ X.ex, b ≠ X.env.locals /\ ∀ x c, X.env.cells.lookup x = some c -> c ≠ b
 bs : ∀ b o, X.base.get? b = some o -> X.s₀.heap.get? b = some o /\ X.H₀ b = none
 bsz : X.base.objs.size <= X.s₀.heap.objs.size
 noex : ∀ b o, X.base.get? b = some o -> b ∉ X.ex
 exfs : ∀ b ∈ X.ex, b ∉ X.fs
 funs : X.s₀.heap.FunFrames X.base X.outer
 frf : ∀ b ∈ X.fs, X.H₀ b = none
structure Inv (X : Cx) (pins : List (Addr × Obj)) (σ : List (Option V)) (H : Hp) (s : Shared) : Prop where
 ok : X.Ok
 os : s.os = X.s₀.os
 bare : AllBare s.gens
 base : Un X.fs X.ex X.H₀ H X.s₀.heap s.heap
 loc : ∃ m, s.heap.Ns X.env.locals m /\ ∀ (i : Nat) (x : Str) (v : V), X.N[i]? = some x -> σ[i]? = some (some v) -> Vis X.env.scope x -> ∃ u, RelV v u /\ Look X.env s.heap m x u
 cell : ∀ x c, X.env.cells.lookup x = some c -> ∃ v, s.heap.IsCell c v
 free : H X.env.locals = none
 freeC : ∀ x c, X.env.cells.lookup x = some c -> H c = none
 pin : ∀ p ∈ X.pn ++ pins, s.heap.get? p.1 = some p.2 /\ H p.1 = none /\ p.1 ≠ X.env.locals /\ p.1 ∉ X.fs /\ ∀ v, p.2.data ≠ .cell v
 hok : HOk X.prog X.w H s.heap
 len : σ.length = X.N.length
section
variable {X : Cx} {pins : List (Addr × Obj)} {σ : List (Option V)} {H H' : Hp} {s : Shared} {h' : Heap}
theorem Cx.Ok.nofr (ok : X.Ok) {b : Addr} {o : Obj} (e : X.base.get? b = some o) : b ∉ X.fs := fun hb => by
 have := (ok.funs.mem hb).1
 rw [e] at this; cases this
theorem Inv.bs (I : Inv X pins σ H s) : ∀ b o, X.base.get? b = some o -> s.heap.get? b = some o /\ H b = none := fun b o e =>
 ⟨I.base.keep b o (I.ok.bs b o e).1 (I.ok.bs b o e).2 (I.ok.nofr e) (I.ok.noex b o e), I.base.free b o (I.ok.bs b o e).1 (I.ok.bs b o e).2 (I.ok.noex b o e)⟩
theorem Inv.bk (I : Inv X pins σ H s) : ∀ b o, X.base.get? b = some o -> s.heap.get? b = some o := fun b o e => (I.bs b o e).1
theorem Inv.mod (I : Inv X pins σ H s) : Mod X.K X.mg X.base := I.ok.mod
theorem Inv.kIn (I : Inv X pins σ H s) : X.K.In s.heap := I.ok.mod.kin.keeps I.bk
theorem Inv.lt (I : Inv X pins σ H s) : X.env.locals < s.heap.objs.size := let ⟨_, hn, _⟩ := I.loc; hn.lt
theorem Inv.sz (I : Inv X pins σ H s) : X.s₀.heap.objs.size <= s.heap.objs.size := Nat.le_trans I.ok.above (Nat.le_of_lt I.lt)
theorem Inv.nofs (I : Inv X pins σ H s) {a : Addr} (h : s.heap.objs.size <= a) : a ∉ X.fs := fun hb => by
 obtain ⟨_, o, ho, _⟩ := I.ok.funs.mem hb
 exact absurd (Nat.lt_of_lt_of_le (Heap.lt_size ho) (Nat.le_trans I.sz h)) (Nat.lt_irrefl _)
theorem Inv.cne (I : Inv X pins σ H s) : ∀ x c, X.env.cells.lookup x = some c -> c ≠ X.env.locals := fun x c e z => by
 obtain ⟨v, o, ho, hd⟩ := I.cell x c e
 obtain ⟨m, ⟨o', es, ep, ho', hd', _⟩, _⟩ := I.loc
 rw [z, ho'] at ho; cases ho; rw [hd'] at hd; cases hd
theorem Inv.funs (I : Inv X pins σ H s) : s.heap.FunFrames X.base X.outer := by
 have all : ∀ (l : List Env), (∀ b ∈ frs l, b ∈ X.fs) -> X.s₀.heap.FunFrames X.base l -> s.heap.FunFrames X.base l := by
  intro l
  induction l with
  | nil => intro _ _; trivial
  | cons env r ih =>
   intro hs hl
   obtain ⟨hk, ⟨L, o, hf, hn, ho, hd⟩, hr⟩ := hl
   have hL : L ∈ X.fs := hs L (by unfold frs; rw [List.filterMap_cons, hf]; exact List.mem_cons_self)
   obtain ⟨sl, e⟩ := I.base.slot L o ho (I.ok.frf L hL) hL fun z => I.ok.exfs L z hL
   exact ⟨hk, ⟨L, _, hf, hn, e, hd⟩, ih (fun b hb => hs b (by unfold frs; rw [List.filterMap_cons, hf]; exact List.mem_cons_of_mem _ hb)) hr⟩
 exact all X.outer (fun _ hb => hb) I.ok.funs
theorem Inv.stack (I : Inv X pins σ H s) : s.heap.FunFrames X.base X.stack := by
 rcases I.ok.stk with e | ⟨e, hf⟩
 ·rw [e]; exact I.funs
 ·rw [e]
  obtain ⟨m, hn, _⟩ := I.loc
  refine .cons (by rw [I.ok.kind]; decide) hf hn ?_ I.funs
  exact Heap.get?_none_of_le (Nat.le_trans I.ok.bsz I.ok.above)
theorem Inv.stkSub (I : Inv X pins σ H s) : ∀ b ∈ frs X.stack, b ∈ X.env.locals :: X.fs := fun b hb => by
 rcases I.ok.stk with e | ⟨e, hf⟩
 ·rw [e] at hb; exact List.mem_cons_of_mem _ hb
 ·rw [e] at hb
  unfold frs at hb
  rw [List.filterMap_cons, hf] at hb
  exact hb
theorem Inv.stkFree (I : Inv X pins σ H s) : ∀ b ∈ frs X.stack, H b = none := fun b hb => by
 rcases List.mem_cons.mp (I.stkSub b hb) with e | hb
 ·rw [e]; exact I.free
 ·obtain ⟨_, o, ho, _⟩ := I.ok.funs.mem hb
  exact I.base.free b o ho (I.ok.frf b hb) fun z => I.ok.exfs b z hb
theorem Inv.step {g' : Array GenState} {t' : Nat} {d' : Drawn} {ch : List Addr} (I : Inv X pins σ H s)
  (hch : ∀ b ∈ ch, (b ∈ X.ex \/ X.s₀.heap.objs.size <= b) /\ b ≠ X.env.locals /\ (∀ x c, X.env.cells.lookup x = some c -> c ≠ b) /\ ∀ p ∈ X.pn ++ pins, p.1 ≠ b)
  (keep : ∀ b o, b ≠ X.env.locals -> b ∉ X.fs -> b ∉ ch -> s.heap.get? b = some o -> H b = none -> h'.get? b = some o)
  (slot : ∀ b o, b ≠ X.env.locals -> b ∈ X.fs -> b ∉ ch -> s.heap.get? b = some o -> H b = none -> ∃ sl, h'.get? b = some { o with slots := sl }) (free : ∀ b o, b ∉ ch -> s.heap.get? b = some o -> H b = none -> H' b = none)
  (there : ∀ b o, b ∉ ch -> s.heap.get? b = some o -> ∃ o', h'.get? b = some o')
  (tups : ∀ b xs, H b = some (.tup xs) -> H' b = some (.tup xs)) (frzs : ∀ b o u, H b = some (.frz o u) -> H' b = some (.frz o u)) (tbls : ∀ b ps, H b = some (.tbl ps) -> ∃ more, H' b = some (.tbl (ps ++ more)))
  (ns : ∀ m, s.heap.Ns X.env.locals m -> h'.Ns X.env.locals m) (hok : HOk X.prog X.w H' h') (hg : AllBare g') :
  Inv X pins σ H' { s with heap := h', gens := g', drawn := d', toks := t' } := by
 have neL : ∀ b o, X.s₀.heap.get? b = some o -> b ≠ X.env.locals := fun b o e => Nat.ne_of_lt (Nat.lt_of_lt_of_le (Heap.lt_size e) I.ok.above)
 have neC : ∀ b o, X.s₀.heap.get? b = some o -> b ∉ X.ex -> b ∉ ch := fun b o e hx hb => by
  rcases (hch b hb).1 with z | z
  ·exact hx z
  ·exact absurd (Nat.lt_of_lt_of_le (Heap.lt_size e) z) (Nat.lt_irrefl _)
 have cellK : ∀ x c, X.env.cells.lookup x = some c -> ∀ v, s.heap.IsCell c v -> h'.IsCell c v := fun x c e v ⟨o, ho, hd⟩ => by
  have nch : c ∉ ch := fun z => (hch c z).2.2.1 x c e rfl
  by_cases hc : c ∈ X.fs
  ·obtain ⟨sl, q⟩ := slot c o (I.cne x c e) hc nch ho (I.freeC x c e)
   exact ⟨_, q, hd⟩
  ·exact ⟨o, keep c o (I.cne x c e) hc nch ho (I.freeC x c e), hd⟩
 refine ⟨I.ok, I.os, hg, ⟨fun b o e n hb hx => ?_, fun b o e n hb hx => ?_, fun b o e n hx => ?_, fun b o e hx => ?_, fun b xs e => tups b xs (I.base.tups b xs e), fun b o xs e => frzs b o xs (I.base.frzs b o xs e), fun b ps e => ?_⟩, ?_, fun x c e => ?_, ?_, fun x c e => ?_, fun p hp => ?_, hok, I.len⟩
 ·exact keep b o (neL b o e) hb (neC b o e hx) (I.base.keep b o e n hb hx) (I.base.free b o e n hx)
 ·obtain ⟨sl, e1⟩ := I.base.slot b o e n hb hx
  obtain ⟨sl', e2⟩ := slot b _ (neL b o e) hb (neC b o e hx) e1 (I.base.free b o e n hx)
  exact ⟨sl', e2⟩
 ·obtain ⟨o', e1⟩ := I.base.there b o e hx
  exact free b o' (neC b o e hx) e1 (I.base.free b o e n hx)
 ·obtain ⟨o', e1⟩ := I.base.there b o e hx
  exact there b o' (neC b o e hx) e1
 ·obtain ⟨m1, e1⟩ := I.base.tbls b ps e
  obtain ⟨m2, e2⟩ := tbls b _ e1
  exact ⟨m1 ++ m2, by rw [e2, Array.append_assoc]⟩
 ·obtain ⟨m, hn, hl⟩ := I.loc
  refine ⟨m, ns m hn, fun i x v e1 e2 e3 => ?_⟩
  obtain ⟨u, r, l⟩ := hl i x v e1 e2 e3
  refine ⟨u, r, ?_⟩
  rcases l with l | ⟨k, c, e, z⟩
  ·exact .inl l
  ·exact .inr ⟨k, c, e, cellK x c e _ z⟩
 ·obtain ⟨v, z⟩ := I.cell x c e
  exact ⟨v, cellK x c e v z⟩
 ·obtain ⟨m, ⟨o, _, _, ho, _⟩, _⟩ := I.loc
  exact free _ o (fun z => (hch _ z).2.1 rfl) ho I.free
 ·obtain ⟨v, o, ho, hd⟩ := I.cell x c e
  exact free c o (fun z => (hch c z).2.2.1 x c e rfl) ho (I.freeC x c e)
 ·obtain ⟨e, n, ne, nf, d⟩ := I.pin p hp
  have nch : p.1 ∉ ch := fun z => (hch p.1 z).2.2.2 p hp rfl
  exact ⟨keep p.1 p.2 ne nf nch e n, free p.1 p.2 nch e n, ne, nf, d⟩
theorem Inv.un {t' : Nat} (I : Inv X pins σ H s) (u : Un X.fs [] H H' s.heap h') (hok : HOk X.prog X.w H' h') : Inv X pins σ H' { s with heap := h', toks := t' } := by
 obtain ⟨m, ⟨o, es, ep, ho, r⟩, _⟩ := id I.loc
 obtain ⟨sl, hL⟩ := u.any ho I.free (by simp)
 exact I.step (g' := s.gens) (d' := s.drawn) (ch := []) (fun _ z => nomatch z) (fun b o _ hb _ e n => u.keep b o e n hb (by simp)) (fun b o _ hb _ e n => u.slot b o e n hb (by simp)) (fun b o _ e n => u.free b o e n (by simp)) (fun b o _ e => u.there b o e (by simp)) u.tups u.frzs u.tbls (fun m' hm => by
  obtain ⟨o', es', ep', ho', r'⟩ := hm
  rw [ho] at ho'; cases ho'
  exact ⟨_, es', ep', hL, r'⟩) hok I.bare
theorem Inv.call {g' : Array GenState} {t' : Nat} {d' : Drawn} {ch : List Addr} (I : Inv X pins σ H s) (u : Un (frs X.stack) ch H H' s.heap h') (hok : HOk X.prog X.w H' h') (hg : AllBare g')
  (hch : ∀ b ∈ ch, (b ∈ X.ex \/ X.s₀.heap.objs.size <= b) /\ b ≠ X.env.locals /\ (∀ x c, X.env.cells.lookup x = some c -> c ≠ b) /\ ∀ p ∈ X.pn ++ pins, p.1 ≠ b) :
  Inv X pins σ H' { s with heap := h', gens := g', drawn := d', toks := t' } := by
 obtain ⟨m, ⟨o, es, ep, ho, r⟩, _⟩ := id I.loc
 obtain ⟨sl, hL⟩ := u.any ho I.free fun z => (hch _ z).2.1 rfl
 exact I.step (ch := ch) hch (fun b o hL hb hc e n => u.keep b o e n (fun z => (List.mem_cons.mp (I.stkSub b z)).elim hL hb) hc) (fun b o _ _ hc e n => u.any e n hc) (fun b o hc e n => u.free b o e n hc) (fun b o hc e => u.there b o e hc) u.tups u.frzs u.tbls (fun m' hm => by
  obtain ⟨o', es', ep', ho', r'⟩ := hm
  rw [ho] at ho'; cases ho'
  exact ⟨_, es', ep', hL, r'⟩) hok hg
theorem Inv.turned {t' : Nat} {it : Addr} (I : Inv X pins σ H s) (k : ∀ b o, b ≠ it -> s.heap.get? b = some o -> h'.get? b = some o) (hn : H it = none) (hL : it ≠ X.env.locals)
  (h1 : it ∈ X.ex \/ X.s₀.heap.objs.size <= it) (h2 : ∀ x c, X.env.cells.lookup x = some c -> c ≠ it) (h3 : ∀ p ∈ X.pn ++ pins, p.1 ≠ it) : Inv X pins σ H { s with heap := h', toks := t' } := by
 have nit : ∀ b u, H b = some u -> b ≠ it := fun b u e z => by rw [z, hn] at e; cases e
 refine I.step (g' := s.gens) (d' := s.drawn) (ch := [it]) (fun b hb => ?_) (fun b o _ _ hc e _ => k b o (fun z => hc (by simp [z])) e) (fun b o _ _ hc e _ => ⟨o.slots, k b o (fun z => hc (by simp [z])) e⟩) (fun _ _ _ _ n => n)
  (fun b o hc e => ⟨o, k b o (fun z => hc (by simp [z])) e⟩) (fun _ _ e => e) (fun _ _ _ e => e) (fun b ps e => ⟨#[], by rw [e]; simp⟩) (fun m hm => ?_) (fun b u e => ?_) I.bare
 ·have e : b = it := by simpa using hb
  subst e
  exact ⟨h1, hL, h2, h3⟩
 ·obtain ⟨o, es, ep, ho, r⟩ := hm
  exact ⟨o, es, ep, k _ o (Ne.symm hL) ho, r⟩
 ·refine (I.hok b u e).stay (fun c v hc q => k c v ?_ q) (fun _ q => q) fun _ _ q => q
  rcases hc with z | z
  ·rw [z]; exact nit b u e
  ·exact nit c _ z
theorem Inv.tok (I : Inv X pins σ H s) (t : Nat) : Inv X pins σ H { s with toks := t } := I.un (h' := s.heap) (t' := t) Un.refl I.hok
theorem Inv.kept {t' : Nat} (I : Inv X pins σ H s) (k : ∀ b u, s.heap.get? b = some u -> h'.get? b = some u) : Inv X pins σ H { s with heap := h', toks := t' } := I.un (Un.kept k) (I.hok.kept k)
theorem Inv.laid {a : Addr} {o : HO} {t' : Nat} (I : Inv X pins σ H s) (k : ∀ b u, s.heap.get? b = some u -> h'.get? b = some u) (hp : s.heap.objs.size <= a) (new : ObjOk X.prog X.w (upd H a o) h' a o) :
  Inv X pins σ (upd H a o) { s with heap := h', toks := t' } := I.un (Un.laid k hp (I.hok.fresh hp)) (I.hok.laid k hp new)
theorem Inv.write {x e : Addr} {o : HO} {t' : Nat} (I : Inv X pins σ H s) (mu : Mut (H x)) (he : e = x \/ H e = some (.own x)) (k : ∀ b u, b ≠ e -> s.heap.get? b = some u -> h'.get? b = some u) (heo : ∃ u, h'.get? e = some u)
  (new : ObjOk X.prog X.w (upd H x o) h' x o) : Inv X pins σ (upd H x o) { s with heap := h', toks := t' } := I.un (Un.write mu he k heo) (I.hok.write mu he k heo new)
theorem Inv.pins_of {pins' : List (Addr × Obj)} (I : Inv X pins σ H s) (h : ∀ p ∈ pins', s.heap.get? p.1 = some p.2 /\ H p.1 = none /\ p.1 ≠ X.env.locals /\ p.1 ∉ X.fs /\ ∀ v, p.2.data ≠ .cell v) : Inv X pins' σ H s :=
 ⟨I.ok, I.os, I.bare, I.base, I.loc, I.cell, I.free, I.freeC, fun p hp => (List.mem_append.mp hp).elim (fun z => I.pin p (List.mem_append_left _ z)) (h p), I.hok, I.len⟩
theorem nodup_ix {N : List Str} (hN : N.Nodup) {i j : Nat} {x : Str} (a : N[i]? = some x) (b : N[j]? = some x) : i = j := by
 obtain ⟨h1, e1⟩ := List.getElem?_eq_some_iff.mp a
 obtain ⟨h2, e2⟩ := List.getElem?_eq_some_iff.mp b
 exact (List.getElem_inj hN).mp (e1.trans e2.symm)
theorem store_ok2 {M : Model} {A : Around} {E : Value -> Shared -> Prop} {i : Nat} {x : Str} {v : V} {u : Value} {Q : Unit -> Shared -> Prop} (I : Inv X pins σ H s) (hN : X.N.Nodup) (hi : X.N[i]? = some x) (hx : Loc X.env.scope x) (r : RelV v u)
  (h : ∀ s', Inv X pins (σ.set i (some v)) H s' -> (∃ a, Heap.SameBut a s.heap s'.heap /\ (a = X.env.locals \/ X.env.cells.lookup x = some a)) -> Q () s') (hf : X.fn x = true \/ X.env.scope.names.lookup x = some .local := by first | exact .inl rfl | exact .inr rfl | assumption) : wpAny M A (storeName X.env x u) Q E s := by
 obtain ⟨m, hn, hl⟩ := id I.loc
 have hcls : (X.env.scope.kind == .class || (X.env.scope.kind == .module && X.env.locals != X.env.globals)) = false := by rw [I.ok.kind]; rfl
 have hiσ : i < σ.length := by rw [I.len]; exact (List.getElem?_eq_some_iff.mp hi).1
 have cne := I.cne
 have tracked : ∀ {a : Addr} {h' : Heap}, (∃ o, s.heap.get? a = some o /\ H a = none) -> Heap.SameBut a s.heap h' -> HOk X.prog X.w H h' := fun {a h'} ha hs b ob e => by
  obtain ⟨_, _, hfree⟩ := ha
  refine (I.hok b ob e).stay (fun c w' hc q => (hs.2 c ?_).trans q) (fun _ q => q) fun _ _ q => q
  rintro rfl
  rcases hc with rfl | hc
  ·rw [hfree] at e; cases e
  ·rw [hfree] at hc; cases hc
 rcases hx with hk | hk
 ·refine wpAny_storeName_local hk hn (fun h' hn' hs => ?_) hcls
  obtain ⟨oL, _, _, hoL, _⟩ := id hn
  refine h _ ⟨I.ok, I.os, I.bare, ⟨fun b o e n hb hx => ?_, fun b o e n hb hx => ?_, I.base.free, fun b o e hx => ?_, I.base.tups, I.base.frzs, I.base.tbls⟩, ⟨_, hn', fun j y v' e1 e2 e3 => ?_⟩, fun y c e => ?_, I.free, I.freeC, fun p hp => ?_, tracked ⟨oL, hoL, I.free⟩ hs, by simpa using I.len⟩ ⟨_, hs, .inl rfl⟩
  ·exact (hs.2 b (Nat.ne_of_lt (Nat.lt_of_lt_of_le (Heap.lt_size e) I.ok.above))).trans (I.base.keep b o e n hb hx)
  ·obtain ⟨sl, e1⟩ := I.base.slot b o e n hb hx
   exact ⟨sl, (hs.2 b (Nat.ne_of_lt (Nat.lt_of_lt_of_le (Heap.lt_size e) I.ok.above))).trans e1⟩
  ·obtain ⟨o', e1⟩ := I.base.there b o e hx
   exact ⟨o', (hs.2 b (Nat.ne_of_lt (Nat.lt_of_lt_of_le (Heap.lt_size e) I.ok.above))).trans e1⟩
  ·by_cases hj : j = i
   ·subst hj
    rw [hi] at e1; cases e1
    rw [List.getElem?_set_self hiσ] at e2
    cases e2
    exact ⟨u, r, .inl ⟨hk, by simp⟩⟩
   ·rw [List.getElem?_set_ne (Ne.symm hj)] at e2
    obtain ⟨u', r', q⟩ := hl j y v' e1 e2 e3
    refine ⟨u', r', ?_⟩
    rcases q with ⟨k, e⟩ | ⟨k, c, e, z⟩
    ·refine .inl ⟨k, ?_⟩
     have : y ≠ x := fun e => hj (nodup_ix hN e1 (e ▸ hi))
     simp [this, e]
    ·exact .inr ⟨k, c, e, z.sameBut hs (cne y c e)⟩
  ·obtain ⟨w', z⟩ := I.cell y c e
   exact ⟨w', z.sameBut hs (cne y c e)⟩
  ·obtain ⟨e, n, ne, nf, d⟩ := I.pin p hp
   exact ⟨(hs.2 p.1 ne).trans e, n, ne, nf, d⟩
 ·have hfn : X.fn x = true := by
   rcases hf with z | z
   ·exact z
   ·rw [z] at hk; cases hk
  obtain ⟨c, hc⟩ := I.ok.has x (.inl hk)
  obtain ⟨w', z⟩ := I.cell x c hc
  refine wpAny_storeName_cell I.ok.kind hk hc z (fun h' hc' hs => ?_)
  obtain ⟨oc, hoc, hocd⟩ := id z
  refine h { s with heap := h' } ⟨I.ok, I.os, I.bare, ⟨fun b o e n hb hx => ?_, fun b o e n hb hx => ?_, I.base.free, fun b o e hx => ?_, I.base.tups, I.base.frzs, I.base.tbls⟩, ⟨m, hn.sameBut hs (Ne.symm (cne x c hc)), fun j y v' e1 e2 e3 => ?_⟩, fun y c' e => ?_, I.free, I.freeC, fun p hp => ?_, tracked ⟨oc, hoc, I.freeC x c hc⟩ hs, by simpa using I.len⟩ ⟨c, hs, .inr hc⟩
  ·exact (hs.2 b (Nat.ne_of_lt (Nat.lt_of_lt_of_le (Heap.lt_size e) (I.ok.cab x c hfn hc)))).trans (I.base.keep b o e n hb hx)
  ·obtain ⟨sl, e1⟩ := I.base.slot b o e n hb hx
   exact ⟨sl, (hs.2 b (Nat.ne_of_lt (Nat.lt_of_lt_of_le (Heap.lt_size e) (I.ok.cab x c hfn hc)))).trans e1⟩
  ·obtain ⟨o', e1⟩ := I.base.there b o e hx
   exact ⟨o', (hs.2 b (Nat.ne_of_lt (Nat.lt_of_lt_of_le (Heap.lt_size e) (I.ok.cab x c hfn hc)))).trans e1⟩
  ·by_cases hj : j = i
   ·subst hj
    rw [hi] at e1; cases e1
    rw [List.getElem?_set_self hiσ] at e2
    cases e2
    exact ⟨u, r, .inr ⟨.inl hk, c, hc, hc'⟩⟩
   ·rw [List.getElem?_set_ne (Ne.symm hj)] at e2
    obtain ⟨u', r', q⟩ := hl j y v' e1 e2 e3
    refine ⟨u', r', ?_⟩
    rcases q with q | ⟨k, c', e, z'⟩
    ·exact .inl q
    ·refine .inr ⟨k, c', e, z'.sameBut hs ?_⟩
     rintro rfl
     exact hj (nodup_ix hN e1 (I.ok.inj _ _ _ e hc ▸ hi))
  ·by_cases hcc : c' = c
   ·subst hcc; exact ⟨_, hc'⟩
   ·obtain ⟨w2, z2⟩ := I.cell y c' e
    exact ⟨w2, z2.sameBut hs hcc⟩
  ·obtain ⟨e, n, ne, nf, d⟩ := I.pin p hp
   refine ⟨(hs.2 p.1 ?_).trans e, n, ne, nf, d⟩
   intro q
   rw [q, hoc] at e
   have q' : oc = p.2 := Option.some.inj e
   exact d w' (by rw [<- q']; exact hocd)
theorem store_ok {M : Model} {A : Around} {E : Value -> Shared -> Prop} {i : Nat} {x : Str} {v : V} {u : Value} {Q : Unit -> Shared -> Prop} (I : Inv X pins σ H s) (hN : X.N.Nodup) (hi : X.N[i]? = some x) (hx : Loc X.env.scope x) (r : RelV v u)
  (h : ∀ s', Inv X pins (σ.set i (some v)) H s' -> Q () s') (hf : X.fn x = true \/ X.env.scope.names.lookup x = some .local := by first | exact .inl rfl | exact .inr rfl | assumption) : wpAny M A (storeName X.env x u) Q E s :=
 store_ok2 I hN hi hx r (fun s' I' _ => h s' I') hf
theorem Inv.call' {s' : Shared} {ch : List Addr} (I : Inv X pins σ H s) (ho : s'.os = s.os) (u : Un (frs X.stack) ch H H' s.heap s'.heap) (hok : HOk X.prog X.w H' s'.heap) (hg : AllBare s'.gens)
  (hch : ∀ b ∈ ch, (b ∈ X.ex \/ X.s₀.heap.objs.size <= b) /\ b ≠ X.env.locals /\ (∀ x c, X.env.cells.lookup x = some c -> c ≠ b) /\ ∀ p ∈ X.pn ++ pins, p.1 ≠ b) : Inv X pins σ H' s' := by
 obtain ⟨h', g', d', t', o'⟩ := s'
 have e : o' = s.os := ho
 subst e
 exact I.call (g' := g') (t' := t') (d' := d') u hok hg hch
end
abbrev XK := Value -> Option Addr -> Hp -> Prop
abbrev St := List (Option V)
abbrev VK := V -> Hp -> Prop
abbrev TE := St -> Hp -> VK -> Prop
abbrev TT := St -> Hp -> (Bool -> Hp -> Prop) -> Prop
abbrev TA := St -> Hp -> (List V -> Hp -> Prop) -> Prop
structure Ends where
 nx : St -> Hp -> Prop
 rt : VK
 bk : St -> Hp -> Prop := fun _ _ => False
 ct : St -> Hp -> Prop := fun _ _ => False
abbrev TS := Ends -> St -> Hp -> Prop
def EP (X : Cx) (pins : List (Addr × Obj)) (σ : St) (Q : VK) (u : Value) (s' : Shared) : Prop := ∃ v H', Inv X pins σ H' s' /\ RelV v u /\ Q v H'
def TP (X : Cx) (pins : List (Addr × Obj)) (σ : St) (Q : Bool -> Hp -> Prop) (b : Bool) (s' : Shared) : Prop := ∃ H', Inv X pins σ H' s' /\ Q b H'
def AP (X : Cx) (pins : List (Addr × Obj)) (σ : St) (Q : List V -> Hp -> Prop) (us : List Value) (s' : Shared) : Prop := ∃ vs H', Inv X pins σ H' s' /\ Vals vs us /\ Q vs H'
def SP (X : Cx) (pins : List (Addr × Obj)) (D : Ends) (f : Flow) (s' : Shared) : Prop :=
 match f with
 | .next => ∃ σ' H', Inv X pins σ' H' s' /\ D.nx σ' H'
 | .brk => ∃ σ' H', Inv X pins σ' H' s' /\ D.bk σ' H'
 | .cont => ∃ σ' H', Inv X pins σ' H' s' /\ D.ct σ' H'
 | .ret u => ∃ v σ' H', Inv X pins σ' H' s' /\ RelV v u /\ D.rt v H'
def PE (X : Cx) (e : Expr) (t : TE) : Prop :=
 ∀ (pins : List (Addr × Obj)) (s : Shared) (σ : St) (H : Hp) (Q : VK), Inv X pins σ H s -> t σ H Q -> wpAny (model X.prog X.w) X.A (eval e X.env) (EP X pins σ Q) X.xe s
def PT (X : Cx) (e : Expr) (t : TT) : Prop :=
 ∀ (pins : List (Addr × Obj)) (s : Shared) (σ : St) (H : Hp) (Q : Bool -> Hp -> Prop), Inv X pins σ H s -> t σ H Q -> wpAny (model X.prog X.w) X.A (isTrue e X.env (eval e X.env)) (TP X pins σ Q) X.xe s
def PW (X : Cx) (e : Expr) (t : TT) : Prop :=
 ∀ (whole : Sem Value) (pins : List (Addr × Obj)) (s : Shared) (σ : St) (H : Hp) (Q : Bool -> Hp -> Prop), Inv X pins σ H s -> t σ H Q -> wpAny (model X.prog X.w) X.A (isTrue e X.env whole) (TP X pins σ Q) X.xe s
theorem PW.pt {X : Cx} {e : Expr} {t : TT} (h : PW X e t) : PT X e t := h _
def PA (X : Cx) (es : List Expr) (t : TA) : Prop :=
 ∀ (pos : Pos) (pins : List (Addr × Obj)) (s : Shared) (σ : St) (H : Hp) (Q : List V -> Hp -> Prop), Inv X pins σ H s -> t σ H Q -> wpAny (model X.prog X.w) X.A (spliced (backTo pos (starEach es X.env))) (AP X pins σ Q) X.xe s
def PS (X : Cx) (st : Stmt) (t : TS) : Prop :=
 ∀ (pins : List (Addr × Obj)) (s : Shared) (σ : St) (H : Hp) (D : Ends), Inv X pins σ H s -> t D σ H -> wpAny (model X.prog X.w) X.A (exec st X.env) (SP X pins D) X.xe s
def PSs (X : Cx) (st : List Stmt) (t : TS) : Prop :=
 ∀ (pins : List (Addr × Obj)) (s : Shared) (σ : St) (H : Hp) (D : Ends), Inv X pins σ H s -> t D σ H -> wpAny (model X.prog X.w) X.A (execs st X.env) (SP X pins D) X.xe s
theorem thn {α : Type} {t : Sem α} {Q Q' : α -> Shared -> Prop} {M : Model} {A : Around} {E : Value -> Shared -> Prop} {s : Shared} (h : wpAny M A t Q E s) (hQ : ∀ a s, Q a s -> Q' a s) : wpAny M A t Q' E s := wpAny_mono h hQ fun _ _ x => x
end L2
namespace L2
open PySem PySem.Spec PyProof.Rows
section
variable {X : Cx}
def tVar (i : Nat) : TE := fun σ H Q => ∃ v, σ[i]? = some (some v) /\ Q v H
def tC (v : V) : TE := fun _ H Q => Q v H
theorem pe_var {i : Nat} {x : Str} {pos : Pos} (hN : X.N[i]? = some x) (hv : Vis X.env.scope x) (hd : (x == ("__debug__" : Str)) = false := by decide) (hcd : (x == ("__classdict__" : Str)) = false := by decide) : PE X (.Name x pos) (tVar i) := by
 intro pins s σ H Q I h
 obtain ⟨v, e, h⟩ := h
 obtain ⟨m, hn, hl⟩ := I.loc
 obtain ⟨u, r, l⟩ := hl i x v hN e hv
 have fin : EP X pins σ Q u s := ⟨v, H, I, r, h⟩
 rcases l with ⟨hk, hm⟩ | ⟨hk, c, hc, hcell⟩
 ·exact wpAny_Name (wpAny_loadName_local I.ok.kind hk hn hm fin) hd
 ·rcases hk with hk | hk
  ·exact wpAny_Name (wpAny_loadName_cell I.ok.kind hk hc hcell fin) hd
  ·exact wpAny_Name (wpAny_loadName_free I.ok.kind hk hc hcell fin hcd) hd
theorem pe_int {i j pos} : PE X (.Constant (.int i) j pos) (tC (.int i)) := fun _ _ _ H _ I h => wpAny_Constant_int ⟨.int i, H, I.tok _, ⟨_, rfl⟩, h⟩
theorem pe_bl {b j pos} : PE X (.Constant (.bool b) j pos) (tC (.bl b)) := fun _ _ _ H _ I h => Constant_bool ⟨.bl b, H, I, rfl, h⟩
def Gl (X : Cx) (x : Str) : Prop := X.env.kindOf x = some .globalImplicit
theorem ld_glob {E : Value -> Shared -> Prop} {pins : List (Addr × Obj)} {s : Shared} {σ : St} {H : Hp} {x : Str} {u : Value} {pos : Pos} {Q : Value -> Shared -> Prop} (I : Inv X pins σ H s) (hg : Gl X x) (hm : X.mg x = some u) (h : Q u s)
  (hd : (x == ("__debug__" : Str)) = false := by decide) : wpAny (model X.prog X.w) X.A (eval (.Name x pos) X.env) Q E s :=
 Calls.Name_function_global I.ok.kind hg (Calls.loadGlobal_global (by rw [I.ok.glob]; exact I.mod.glob.keeps I.bk) hm h) hd
theorem ld_blt {E : Value -> Shared -> Prop} {pins : List (Addr × Obj)} {s : Shared} {σ : St} {H : Hp} {x : Str} {u : Value} {pos : Pos} {Q : Value -> Shared -> Prop} (I : Inv X pins σ H s) (hg : Gl X x) (hm : X.mg x = none) (hv : bootBuiltins x = some u) (h : Q u s)
  (hn : x ≠ "__name__" := by decide) (hd : (x == ("__debug__" : Str)) = false := by decide) : wpAny (model X.prog X.w) X.A (eval (.Name x pos) X.env) Q E s := by
 obtain ⟨mb, h1, h2⟩ := I.mod.blt
 exact Calls.Name_function_global I.ok.kind hg (Calls.loadGlobal_builtin (by rw [I.ok.glob]; exact I.mod.glob.keeps I.bk) hm (by rw [I.ok.blt]; exact h1.keeps I.bk) ((h2 x hn).trans hv) h) hd
theorem pe_bltn {x : Str} {v : V} {u : Value} {pos : Pos} (hg : Gl X x) (hm : X.mg x = none) (hv : bootBuiltins x = some u) (r : RelV v u) (hn : x ≠ "__name__" := by decide) (hd : (x == ("__debug__" : Str)) = false := by decide) : PE X (.Name x pos) (tC v) :=
 fun _ _ _ H _ I h => ld_blt I hg hm hv ⟨v, H, I, r, h⟩ hn hd
variable {a b : Expr} {ta tb : TE} {pos : Pos}
variable {tA tB' : TT} {rest : List Expr}
def tAnd (t u : TT) : TT := fun σ H Q => t σ H fun c H1 => if c = true then u σ H1 Q else Q false H1
def tOr (t u : TT) : TT := fun σ H Q => t σ H fun c H1 => if c = true then Q true H1 else u σ H1 Q
def tNot (t : TT) : TT := fun σ H Q => t σ H fun c H1 => Q (!c) H1
theorem pw_and1 (ha : PT X a tA) : PW X (.BoolOp .And [a] pos) tA := by
 intro wh pins s σ H Q I h
 refine isTrue_and (thn (ha pins s σ H Q I h) fun c s1 e => ?_)
 cases c with
 | true => exact isTrue_and_nil e
 | false => exact e
theorem pw_or1 (ha : PT X a tA) : PW X (.BoolOp .Or [a] pos) tA := by
 intro wh pins s σ H Q I h
 refine isTrue_or (thn (ha pins s σ H Q I h) fun c s1 e => ?_)
 cases c with
 | false => exact isTrue_or_nil e
 | true => exact e
theorem pw_and (ha : PT X a tA) (hb : PW X (.BoolOp .And (b :: rest) pos) tB') : PW X (.BoolOp .And (a :: b :: rest) pos) (tAnd tA tB') := by
 intro wh pins s σ H Q I h
 refine isTrue_and (thn (ha pins s σ H _ I h) fun c s1 ⟨H1, I1, q1⟩ => ?_)
 cases c with
 | true => exact hb wh pins s1 σ H1 Q I1 q1
 | false => exact ⟨H1, I1, q1⟩
theorem pw_or (ha : PT X a tA) (hb : PW X (.BoolOp .Or (b :: rest) pos) tB') : PW X (.BoolOp .Or (a :: b :: rest) pos) (tOr tA tB') := by
 intro wh pins s σ H Q I h
 refine isTrue_or (thn (ha pins s σ H _ I h) fun c s1 ⟨H1, I1, q1⟩ => ?_)
 cases c with
 | true => exact ⟨H1, I1, q1⟩
 | false => exact hb wh pins s1 σ H1 Q I1 q1
theorem pt_not (ha : PT X a tA) : PT X (.UnaryOp .Not a pos) (tNot tA) := by
 intro pins s σ H Q I h
 exact isTrue_not (ha pins s σ H (fun c H1 => Q (!c) H1) I h)
def tAndV (ta tb : TE) : TE := fun σ H Q => ta σ H fun x H1 => ∃ c, x = .bl c /\ if c = true then tb σ H1 Q else Q (.bl false) H1
def tNotV (ta : TE) : TE := fun σ H Q => ta σ H fun x H1 => ∃ c, x = .bl c /\ Q (.bl (!c)) H1
theorem pe_one {op} {t : TE} (h : PE X a t) : PE X (.BoolOp op [a] pos) t := fun pins s σ H Q I hw => BoolOp_one (h pins s σ H Q I hw)
theorem pe_and (ha : PE X a ta) (hb : PE X (.BoolOp .And (b :: rest) pos) tb) : PE X (.BoolOp .And (a :: b :: rest) pos) (tAndV ta tb) := by
 intro pins s σ H Q I h
 refine BoolOp_and (thn (ha pins s σ H _ I h) fun v s1 ⟨x, H1, I1, r1, q1⟩ => ?_)
 obtain ⟨c, rfl, q1⟩ := q1
 cases r1
 refine wpAny_truthy_bool ?_
 cases c with
 | true => exact hb pins s1 σ H1 Q I1 q1
 | false => exact ⟨.bl false, H1, I1, rfl, q1⟩
theorem pe_not (ha : PE X a ta) : PE X (.UnaryOp .Not a pos) (tNotV ta) := by
 intro pins s σ H Q I h
 refine UnaryOp_ (thn (ha pins s σ H _ I h) fun v s1 ⟨x, H1, I1, r1, q1⟩ => ?_)
 obtain ⟨c, rfl, q1⟩ := q1
 cases r1
 exact not_of (wpAny_truthy_bool ⟨.bl (!c), H1, I1, rfl, q1⟩)
end
end L2
namespace L2
open PySem PySem.Spec PyProof.Rows
def SqL (K : PySem.W.Frag) (H : Hp) (a : Addr) (xs : List V) : Prop :=
 Rd H a (.lst xs) \/
  ∃ (o : Obj) (its : Array Value) (n : Nat), K.lookup a = some o /\ o.cls = .type "list" /\ o.dict = none /\ o.data = .seq its n /\ its.size <= sizeLine /\ Vals xs its.toList
def SqT (K : PySem.W.Frag) (H : Hp) (a : Addr) (xs : List V) : Prop :=
 Rd H a (.tup xs) \/
  ∃ (o : Obj) (its : Array Value) (n : Nat), K.lookup a = some o /\ o.cls = .type "tuple" /\ o.data = .seq its n /\ its.size <= sizeLine /\ Vals xs its.toList
noncomputable def absV : Value -> Option V
 | .none => some .non
 | .bool b => some (.bl b)
 | .int i _ => some (.int i)
 | .str x _ => some (.str x)
 | .bytes b _ => some (.byt b)
 | .float b _ => some (.flt b)
 | .ref a => some (.ref a)
 | .type n => some (.ty n)
 | _ => none
theorem RelV.abs {x : V} {u : Value} (r : RelV x u) : absV u = some x := by
 cases x with
 | non => cases r; rfl
 | bl _ => cases r; rfl
 | int _ => obtain ⟨t, rfl⟩ := r; rfl
 | str _ => obtain ⟨t, rfl⟩ := r; rfl
 | byt _ => obtain ⟨t, rfl⟩ := r; rfl
 | flt _ => obtain ⟨t, rfl⟩ := r; rfl
 | ref _ => cases r; rfl
 | ty _ => cases r; rfl
theorem RelV.inj {x y : V} {u : Value} (r : RelV x u) (q : RelV y u) : x = y := Option.some.inj (r.abs.symm.trans q.abs)
theorem Vals.inj : ∀ {xs ys : List V} {us : List Value}, Vals xs us -> Vals ys us -> xs = ys
 | _, _, _, .nil, .nil => rfl
 | _, _, _, .cons r t, .cons r' t' => by rw [r.inj r', Vals.inj t t']
section
variable {X : Cx} {pins : List (Addr × Obj)} {σ : St} {H : Hp} {s : Shared} {a : Addr} {xs ys : List V}
theorem SqL.of {K : PySem.W.Frag} (h : H a = some (.lst xs)) : SqL K H a xs := .inl (.inl h)
theorem SqT.of {K : PySem.W.Frag} (h : H a = some (.tup xs)) : SqT K H a xs := .inl (.inl h)
theorem Inv.list (I : Inv X pins σ H s) (h : SqL X.K H a xs) : ∃ its : List Value, Vals xs its /\ PlainL s.heap a its.toArray /\ xs.length <= sizeLine := by
 rcases h with h | ⟨o, its, n, hk, hc, hd, hs, hz, r⟩
 ·obtain ⟨z, its, n, r, e⟩ := h.ok I.hok
  exact ⟨its, r, ⟨_, n, e, rfl, rfl, rfl⟩, z⟩
 ·refine ⟨its.toList, r, ⟨o, n, I.kIn a o hk, hc, hd, by simpa using hs⟩, ?_⟩
  have e := r.length
  simp only [Array.length_toList] at e
  omega
theorem Inv.tuple (I : Inv X pins σ H s) (h : SqT X.K H a xs) : ∃ its : List Value, Vals xs its /\ IsTup s.heap a its.toArray /\ xs.length <= sizeLine := by
 rcases h with h | ⟨o, its, n, hk, hc, hs, hz, r⟩
 ·obtain ⟨z, its, r, p⟩ := h.ok I.hok
  exact ⟨its, r, p, z⟩
 ·refine ⟨its.toList, r, ⟨o, I.kIn a o hk, hc, n, by simpa using hs⟩, ?_⟩
  have e := r.length
  simp only [Array.length_toList] at e
  omega
theorem Inv.list_inj (I : Inv X pins σ H s) (h : SqL X.K H a xs) (h' : SqL X.K H a ys) : xs = ys := by
 obtain ⟨its, r, ⟨o, n, e, _, _, d⟩, _⟩ := I.list h
 obtain ⟨its', r', ⟨o', n', e', _, _, d'⟩, _⟩ := I.list h'
 rw [e] at e'; cases e'
 rw [d] at d'
 injection d' with d1 _
 have : its = its' := by simpa using congrArg Array.toList d1
 subst this
 exact r.inj r'
theorem Inv.tuple_inj (I : Inv X pins σ H s) (h : SqT X.K H a xs) (h' : SqT X.K H a ys) : xs = ys := by
 obtain ⟨its, r, ⟨o, e, _, n, d⟩, _⟩ := I.tuple h
 obtain ⟨its', r', ⟨o', e', _, n', d'⟩, _⟩ := I.tuple h'
 rw [e] at e'; cases e'
 rw [d] at d'
 injection d' with d1 _
 have : its = its' := by simpa using congrArg Array.toList d1
 subst this
 exact r.inj r'
end
abbrev Cx.wish (X : Cx) (E : Value -> Shared -> Prop) : Cx := { X with xe := E }
abbrev Cx.nox (X : Cx) : Cx := X.wish fun _ _ => False
theorem Cx.Ok.wish {X : Cx} (ok : X.Ok) (E : Value -> Shared -> Prop) : (X.wish E).Ok :=
 ⟨ok.mod, ok.kind, ok.glob, ok.blt, ok.above, ok.inj, ok.has, ok.cab, ok.hd, ok.frames, ok.stk, ok.exf, ok.bs, ok.bsz, ok.noex, ok.exfs, ok.funs, ok.frf⟩
theorem Cx.Ok.unwish {X : Cx} {E : Value -> Shared -> Prop} (ok : (X.wish E).Ok) : X.Ok :=
 ⟨ok.mod, ok.kind, ok.glob, ok.blt, ok.above, ok.inj, ok.has, ok.cab, ok.hd, ok.frames, ok.stk, ok.exf, ok.bs, ok.bsz, ok.noex, ok.exfs, ok.funs, ok.frf⟩
section
variable {X : Cx} {pins : List (Addr × Obj)} {σ : St} {H : Hp} {s : Shared} {E : Value -> Shared -> Prop}
theorem Inv.wish (I : Inv X pins σ H s) (E : Value -> Shared -> Prop) : Inv (X.wish E) pins σ H s := ⟨I.ok.wish E, I.os, I.bare, I.base, I.loc, I.cell, I.free, I.freeC, I.pin, I.hok, I.len⟩
theorem Inv.unwish (I : Inv (X.wish E) pins σ H s) : Inv X pins σ H s := ⟨I.ok.unwish, I.os, I.bare, I.base, I.loc, I.cell, I.free, I.freeC, I.pin, I.hok, I.len⟩
theorem SP.unwish {D : Ends} {f : Flow} {s' : Shared} (h : SP (X.wish E) pins D f s') : SP X pins D f s' := by
 cases f with
 | next => obtain ⟨σ', H', I, q⟩ := h; exact ⟨σ', H', I.unwish, q⟩
 | brk => obtain ⟨σ', H', I, q⟩ := h; exact ⟨σ', H', I.unwish, q⟩
 | cont => obtain ⟨σ', H', I, q⟩ := h; exact ⟨σ', H', I.unwish, q⟩
 | ret u => obtain ⟨v, σ', H', I, r, q⟩ := h; exact ⟨v, σ', H', I.unwish, r, q⟩
theorem PSs.nox {st : List Stmt} {t : TS} (h : PSs X.nox st t) : PSs X st t := fun pins s σ H D I hw =>
 wpAny_mono (h pins s σ H D (I.wish _) hw) (fun _ _ q => q.unwish) fun _ _ z => False.elim z
end
section
variable {X : Cx} {st : Stmt} {rest : List Stmt} {t u : TS} {e : Expr} {te : TE} {pos : Pos}
def tNext : TS := fun D σ H => D.nx σ H
def tSeq (t u : TS) : TS := fun D σ H => t { D with nx := u D } σ H
theorem pss_nil : PSs X [] tNext := fun _ _ σ H _ I h => wpAny_execs_nil ⟨σ, H, I, h⟩
theorem pss_cons (h1 : PS X st t) (h2 : PSs X rest u) : PSs X (st :: rest) (tSeq t u) := by
 intro pins s σ H D I h
 refine wpAny_execs_cons (thn (h1 pins s σ H { D with nx := u D } I h) fun f s1 q => ?_)
 cases f with
 | next =>
  obtain ⟨σ', H', I', q⟩ := q
  exact h2 pins s1 σ' H' D I' q
 | ret v => exact q
 | brk => exact q
 | cont => exact q
theorem pss_one (h1 : PS X st t) : PSs X [st] t := by
 intro pins s σ H D I h
 refine wpAny_execs_cons (thn (h1 pins s σ H D I h) fun f s1 q => ?_)
 cases f with
 | next => exact wpAny_execs_nil q
 | ret v => exact q
 | brk => exact q
 | cont => exact q
theorem Inv.quiet {pins : List (Addr × Obj)} {σ : St} {H : Hp} {s : Shared} (I : Inv X pins σ H s) : interactive X.env = false := by simp [interactive, I.ok.kind]
def tDrop (te : TE) : TS := fun D σ H => te σ H fun _ H1 => D.nx σ H1
theorem ps_expr (he : PE X e te) (hs : swapsWith e none pos.line X.env = pure false := by rfl) : PS X (.Expr e pos) (tDrop te) := by
 intro pins s σ H D I h
 exact wpAny_Expr_any (thn (he pins s σ H _ I h) fun v s1 ⟨x, H1, I1, r1, q1⟩ => ⟨σ, H1, I1, q1⟩) I.quiet hs
def tRet (te : TE) : TS := fun D σ H => te σ H D.rt
theorem ps_ret (he : PE X e te) : PS X (.Return (some e) pos) (tRet te) := by
 intro pins s σ H D I h
 exact wpAny_Return_some (thn (he pins s σ H _ I h) fun v s1 ⟨x, H1, I1, r1, q1⟩ => ⟨x, σ, H1, I1, r1, q1⟩)
def tIfS (c : TT) (t u : TS) : TS := fun D σ H => c σ H fun b H1 => if b = true then t D σ H1 else u D σ H1
theorem ps_if {c : Expr} {a b : List Stmt} {tc : TT} (hc : PT X c tc) (ha : PSs X a t) (hb : PSs X b u) : PS X (.If c a b pos) (tIfS tc t u) := by
 intro pins s σ H D I h
 refine wpAny_If (thn (hc pins s σ H _ I h) fun d s1 ⟨H1, I1, q1⟩ => ?_)
 cases d with
 | true => exact ha pins s1 σ H1 D I1 q1
 | false => exact hb pins s1 σ H1 D I1 q1
end
abbrev TG := V -> St -> Hp -> (St -> Hp -> Prop) -> Prop
abbrev TGs := List V -> St -> Hp -> (St -> Hp -> Prop) -> Prop
def PG (X : Cx) (target : Expr) (t : TG) : Prop :=
 ∀ (pins : List (Addr × Obj)) (s : Shared) (σ : St) (H : Hp) (v : V) (u : Value) (Q : St -> Hp -> Prop), Inv X pins σ H s -> RelV v u -> t v σ H Q ->
  wpAny (model X.prog X.w) X.A (assign target X.env u) (fun _ s' => ∃ σ' H', Inv X pins σ' H' s' /\ Q σ' H') X.xe s
def PGs (X : Cx) (ts : List Expr) (t : TGs) : Prop :=
 ∀ (pins : List (Addr × Obj)) (s : Shared) (σ : St) (H : Hp) (vs : List V) (us : List Value) (Q : St -> Hp -> Prop), Inv X pins σ H s -> Vals vs us -> t vs σ H Q ->
  wpAny (model X.prog X.w) X.A (assignInOrder ((assignEach ts X.env).map (·.2)) us) (fun _ s' => ∃ σ' H', Inv X pins σ' H' s' /\ Q σ' H') X.xe s
section
variable {X : Cx} {pos : Pos}
noncomputable def gName (i : Nat) : TG := fun v σ H Q => Q (σ.set i (some v)) H
theorem pg_name {i : Nat} {x : Str} (hN : X.N.Nodup) (hi : X.N[i]? = some x) (hx : Loc X.env.scope x) (hf : X.fn x = true \/ X.env.scope.names.lookup x = some .local := by first | exact .inl rfl | exact .inr rfl | assumption) : PG X (.Name x pos) (gName i) := by
 intro pins s σ H v u Q I r h
 exact wpAny_assign_Name (store_ok I hN hi hx r (fun s' I' => ⟨_, H, I', h⟩) hf)
noncomputable def gNil : TGs := fun vs σ H Q => vs = [] /\ Q σ H
noncomputable def gCons (t : TG) (u : TGs) : TGs := fun vs σ H Q => ∃ v r, vs = v :: r /\ t v σ H fun σ' H' => u r σ' H' Q
theorem pgs_nil : PGs X [] gNil := by
 intro pins s σ H vs us Q I r h
 obtain ⟨e, h⟩ := h
 subst e
 cases r
 exact assignInOrder_nil ⟨σ, H, I, h⟩
theorem pgs_cons {e : Expr} {es : List Expr} {t : TG} {u : TGs} (h1 : PG X e t) (h2 : PGs X es u)
  (hs : (assignEach (e :: es) X.env).map (·.2) = assign e X.env :: (assignEach es X.env).map (·.2) := by rfl) : PGs X (e :: es) (gCons t u) := by
 intro pins s σ H vs us Q I r h
 obtain ⟨v, vr, e1, h⟩ := h
 subst e1
 cases r with
 | cons r rr =>
  rw [hs]
  refine assignInOrder_cons (thn (h1 pins s σ H _ _ _ I r h) fun _ s1 ⟨σ1, H1, I1, q1⟩ => ?_)
  exact h2 pins s1 σ1 H1 _ _ Q I1 rr q1
noncomputable def gTup (K : PySem.W.Frag) (n : Nat) (t : TGs) : TG := fun v σ H Q => ∃ a xs, v = .ref a /\ SqT K H a xs /\ xs.length = n /\ t xs σ H Q
theorem pg_tup {es : List Expr} {k : Nat} {t : TGs} {n : Nat} (hc : X.calm = true) (h : PGs X es t)
  (hn : (assignEach es X.env).length = n := by rfl) (hst : (assignEach es X.env).findIdx? (·.1) = none := by rfl) : PG X (.Tuple es k pos) (gTup X.K n t) := by
 intro pins s σ H v u Q I r hw
 obtain ⟨a, xs, e1, hq, hl, hw⟩ := hw
 subst e1
 cases r
 obtain ⟨its, rv, ht, hz⟩ := I.tuple hq
 refine assign_Tuple_tuple (I.ok.hd hc) ht (by simp [hn, <- hl, rv.length]) hst fun h' hx => ?_
 have I1 : Inv X pins σ H { s with heap := h' } := I.kept (t' := s.toks) fun b o e => hx b o (Nat.ne_of_lt (Heap.lt_size e)) e
 exact h pins _ σ H xs _ Q I1 (by simpa using rv) hw
def tAsg (te : TE) (g : TG) : TS := fun D σ H => te σ H fun x H1 => g x σ H1 D.nx
theorem ps_set {i : Nat} {x : Str} {e : Expr} {te : TE} {pos' : Pos} (hN : X.N.Nodup) (hi : X.N[i]? = some x) (hx : Loc X.env.scope x) (he : PE X e te) (hs : swapsWith e (some (.Name x pos')) pos.line X.env = pure false := by rfl) (hf : X.fn x = true \/ X.env.scope.names.lookup x = some .local := by first | exact .inl rfl | exact .inr rfl | assumption) :
  PS X (.Assign [.Name x pos'] e pos) (tAsg te (gName i)) := by
 intro pins s σ H D I h
 refine wpAny_Assign_Name (thn (he pins s σ H _ I h) fun v s1 ⟨y, H1, I1, r1, q1⟩ => ?_) hs
 exact store_ok I1 hN hi hx r1 (fun s2 I2 => ⟨_, H1, I2, q1⟩) hf
end
section
variable {X : Cx} {pos : Pos}
end
structure It where
 go : Nat -> Hp -> Prop
 yld : Nat -> Hp -> V -> Hp -> Prop
 stop : Nat -> Hp -> Prop
def FpOk (X : Cx) (pins : List (Addr × Obj)) (H : Hp) (b : Addr) : Prop :=
 H b = none /\ b ≠ X.env.locals /\ b ∉ X.fs /\ (b ∈ X.ex \/ X.s₀.heap.objs.size <= b) /\ (∀ x c, X.env.cells.lookup x = some c -> c ≠ b) /\ ∀ p ∈ X.pn ++ pins, p.1 ≠ b
theorem Inv.fpOk {X : Cx} {pins : List (Addr × Obj)} {σ : St} {H H' : Hp} {s : Shared} {b : Addr} (I : Inv X pins σ H s) (hb : s.heap.objs.size <= b) (hn : H' b = none) : FpOk X pins H' b := by
 refine ⟨hn, Nat.ne_of_gt (Nat.lt_of_lt_of_le I.lt hb), I.nofs hb, .inr (Nat.le_trans I.sz hb), fun x c e z => ?_, fun p hp z => ?_⟩
 ·obtain ⟨v, q⟩ := I.cell x c e
  exact absurd (Nat.lt_of_lt_of_le q.lt (by rw [z]; exact hb)) (Nat.lt_irrefl _)
 ·exact absurd (Nat.lt_of_lt_of_le (Heap.lt_size (I.pin p hp).1) (by rw [z]; exact hb)) (Nat.lt_irrefl _)
structure Turn (P : Program) (w : World) (K : PySem.W.Frag) (tg : Expr) (J : It) (fp : List Addr) (it : Addr) (tn : Nat -> Heap -> Prop) : Prop where
 mem : it ∈ fp
 obj : ∀ i h, tn i h -> ∀ b ∈ fp, ∃ o, h.get? b = some o /\ ∀ v, o.data ≠ .cell v
 keep : ∀ i h h', tn i h -> (∀ b ∈ fp, ∀ o, h.get? b = some o -> h'.get? b = some o) -> tn i h'
 item : ∀ (X : Cx), X.prog = P -> X.w = w -> X.K = K -> X.calm = true -> ∀ (i : Nat) (pins : List (Addr × Obj)) (s : Shared) (σ : St) (H : Hp) (E : Value -> Shared -> Prop), Inv X pins σ H s -> (∀ b ∈ fp, FpOk X pins H b) -> tn i s.heap -> J.go i H ->
  wpAny (model P w) X.A (pyNext (.ref it)) (fun r s1 => ∃ u, r = some u /\
   wpAny (model P w) X.A (letOwnedTupleGo tg (.ref it) u) (fun _ s2 => ∃ x H', Inv X pins σ H' s2 /\ RelV x u /\ J.yld i H x H' /\ tn (i + 1) s2.heap /\ ∀ b ∈ fp, H' b = none) E s1) E s
 done : ∀ (X : Cx), X.prog = P -> X.w = w -> X.K = K -> X.calm = true -> ∀ (i : Nat) (pins : List (Addr × Obj)) (s : Shared) (σ : St) (H : Hp) (E : Value -> Shared -> Prop), Inv X pins σ H s -> (∀ b ∈ fp, FpOk X pins H b) -> tn i s.heap -> J.stop i H ->
  wpAny (model P w) X.A (pyNext (.ref it)) (fun r s1 => r = none /\ Inv X pins σ H s1) E s
 self : ∀ (A : Around) (i : Nat) (s : Shared) (Q : Value -> Shared -> Prop) (E : Value -> Shared -> Prop), tn i s.heap -> Q (.ref it) s -> wpAny (model P w) A (pyIter (.ref it)) Q E s
abbrev TI := St -> Hp -> (It -> Hp -> Prop) -> Prop
def PIE (X : Cx) (pins : List (Addr × Obj)) (σ : St) (tg : Expr) (R : It -> Hp -> Prop) (itv : Value) (s2 : Shared) : Prop :=
 ∃ (it : Addr) (fp : List Addr) (tn : Nat -> Heap -> Prop) (J : It) (H' : Hp), itv = .ref it /\ Inv X pins σ H' s2 /\ Turn X.prog X.w X.K tg J fp it tn /\ tn 0 s2.heap /\ (∀ b ∈ fp, FpOk X pins H' b) /\ R J H'
def PI (X : Cx) (tg iter : Expr) (wi : TI) : Prop :=
 ∀ (pins : List (Addr × Obj)) (s : Shared) (σ : St) (H : Hp) (R : It -> Hp -> Prop), Inv X pins σ H s -> wi σ H R ->
  wpAny (model X.prog X.w) X.A (eval iter X.env) (fun v s1 => wpAny (model X.prog X.w) X.A (pyIter v) (PIE X pins σ tg R) X.xe s1) X.xe s
theorem go_of {M : Model} {A : Around} {E : Value -> Shared -> Prop} {s : Shared} {tg : Expr} {it : Addr} {u : Value} {o : Obj} {n : String} {vs : Array Value} {Q : Unit -> Shared -> Prop} (ho : s.heap.get? it = some o) (hc : o.cls = .type n) (hd : o.data = .fields vs)
  (hn : ["enumerate", "zip", "dict_itemiterator", "dict_reverseitemiterator", "odict_iterator", "itertools.zip_longest", "itertools.pairwise"].contains n = false) (hQ : Q () s) : wpAny M A (letOwnedTupleGo tg (.ref it) u) Q E s := by
 unfold letOwnedTupleGo
 cases tg <;> first
  | exact wpAny_pure hQ
  | (cases u <;> first
    | exact wpAny_pure hQ
    | (refine wpAny_bind (wpAny_load ho ?_)
       rw [hc, hd]
       show wpAny M A (if (["enumerate", "zip", "dict_itemiterator", "dict_reverseitemiterator", "odict_iterator", "itertools.zip_longest", "itertools.pairwise"].contains n && vs[0]? == some (rawInt _)) = true then _ else _) Q E s
       rw [if_neg (by intro h; rw [hn, Bool.false_and] at h; cases h)]
       exact wpAny_pure hQ))
def Itl (K : PySem.W.Frag) (a : Addr) : It :=
 ⟨fun i H => ∃ xs x, SqL K H a xs /\ xs[i]? = some x, fun i H x H' => H' = H /\ ∀ xs, SqL K H a xs -> xs[i]? = some x, fun i H => ∃ xs, SqL K H a xs /\ xs.length <= i⟩
def Itt (K : PySem.W.Frag) (a : Addr) : It :=
 ⟨fun i H => ∃ xs x, SqT K H a xs /\ xs[i]? = some x, fun i H x H' => H' = H /\ ∀ xs, SqT K H a xs -> xs[i]? = some x, fun i H => ∃ xs, SqT K H a xs /\ xs.length <= i⟩
def Itr (lo : Int) (n : Nat) : It := ⟨fun i _ => i < n, fun i H x H' => H' = H /\ x = .int (lo + i), fun i _ => n <= i⟩
theorem turn_list {P : Program} {w : World} {K : PySem.W.Frag} {tg : Expr} (a it : Addr) : Turn P w K tg (Itl K a) [it] it (fun i h => h.IsListIter it a i) where
 mem := by simp
 obj := fun i h st b hb => by
  have e : b = it := by simpa using hb
  subst e
  obtain ⟨o, e, c, d⟩ := st
  exact ⟨o, e, fun v z => by rw [d] at z; cases z⟩
 keep := fun i h h' st k => st.at fun o e => k it (by simp) o e
 item := by
  intro X hP hw hK hc i pins s σ H E I hf st hg
  subst hP hw hK
  obtain ⟨xs, x, hq, hx⟩ := hg
  obtain ⟨its, rv, p, hz⟩ := I.list hq
  obtain ⟨u, hu, ru⟩ := rv.get hx
  obtain ⟨f0, f1, f2, f3, f4, f5⟩ := hf it (by simp)
  refine wpAny_pyNext_list_item st p.isList (x := u) (by simpa using hu) fun h' st' sb => ?_
  have I1 : Inv X pins σ H { s with heap := h' } := I.turned (t' := s.toks) (fun b o hb e => (sb.2 b hb).trans e) f0 f1 f3 f4 f5
  obtain ⟨o, e, c, d⟩ := id st'
  exact ⟨u, rfl, go_of (s := { s with heap := h' }) e c d (by decide) ⟨x, H, I1, ru, ⟨rfl, fun ys hy => by rw [I.list_inj hy hq]; exact hx⟩, st', fun b hb => (hf b hb).1⟩⟩
 done := by
  intro X hP hw hK hc i pins s σ H E I hf st hg
  subst hP hw hK
  obtain ⟨xs, hq, hx⟩ := hg
  obtain ⟨its, rv, p, hz⟩ := I.list hq
  obtain ⟨f0, f1, f2, f3, f4, f5⟩ := hf it (by simp)
  have hl := rv.length
  exact wpAny_pyNext_list_end (I.ok.hd hc) st p.isList (by simp; omega) fun h' eb => ⟨rfl, I.turned (t' := s.toks) (fun b o hb e => eb b o hb e) f0 f1 f3 f4 f5⟩
 self := fun _ _ _ _ _ st h => wpAny_pyIter_listiter st h
theorem turn_tuple {P : Program} {w : World} {K : PySem.W.Frag} {tg : Expr} (a it : Addr) : Turn P w K tg (Itt K a) [it] it (fun i h => h.IsTupleIter it a i) where
 mem := by simp
 obj := fun i h st b hb => by
  have e : b = it := by simpa using hb
  subst e
  obtain ⟨o, e, c, d⟩ := st
  exact ⟨o, e, fun v z => by rw [d] at z; cases z⟩
 keep := fun i h h' st k => st.at fun o e => k it (by simp) o e
 item := by
  intro X hP hw hK hc i pins s σ H E I hf st hg
  subst hP hw hK
  obtain ⟨xs, x, hq, hx⟩ := hg
  obtain ⟨its, rv, p, hz⟩ := I.tuple hq
  obtain ⟨u, hu, ru⟩ := rv.get hx
  obtain ⟨f0, f1, f2, f3, f4, f5⟩ := hf it (by simp)
  refine wpAny_pyNext_tuple_item st (show s.heap.IsTuple a its.toArray from p) (x := u) (by simpa using hu) fun h' st' sb => ?_
  have I1 : Inv X pins σ H { s with heap := h' } := I.turned (t' := s.toks) (fun b o hb e => (sb.2 b hb).trans e) f0 f1 f3 f4 f5
  obtain ⟨o, e, c, d⟩ := id st'
  exact ⟨u, rfl, go_of (s := { s with heap := h' }) e c d (by decide) ⟨x, H, I1, ru, ⟨rfl, fun ys hy => by rw [I.tuple_inj hy hq]; exact hx⟩, st', fun b hb => (hf b hb).1⟩⟩
 done := by
  intro X hP hw hK hc i pins s σ H E I hf st hg
  subst hP hw hK
  obtain ⟨xs, hq, hx⟩ := hg
  obtain ⟨its, rv, p, hz⟩ := I.tuple hq
  obtain ⟨f0, f1, f2, f3, f4, f5⟩ := hf it (by simp)
  have hl := rv.length
  exact wpAny_pyNext_tuple_end (I.ok.hd hc) st (show s.heap.IsTuple a its.toArray from p) (by simp; omega) fun h' eb => ⟨rfl, I.turned (t' := s.toks) (fun b o hb e => eb b o hb e) f0 f1 f3 f4 f5⟩
 self := fun _ _ _ _ _ st h => wpAny_pyIter_tupleiter st h
theorem turn_range {P : Program} {w : World} {K : PySem.W.Frag} {tg : Expr} (it : Addr) (lo : Int) (n : Nat) : Turn P w K tg (Itr lo n) [it] it (fun i h => IsRangeIter h it (lo + (i : Nat) * 1) ((n : Int) - (i : Nat)) 1) where
 mem := by simp
 obj := fun i h st b hb => by
  have e : b = it := by simpa using hb
  subst e
  exact ⟨_, st, fun v z => by
   have z' : Data.fields _ = Data.cell v := z
   cases z'⟩
 keep := fun i h h' st k => k it (by simp) _ st
 item := by
  intro X hP hw hK hc i pins s σ H E I hf st hg
  subst hP hw hK
  obtain ⟨f0, f1, f2, f3, f4, f5⟩ := hf it (by simp)
  have W := Walks.range (prog := X.prog) (w := X.w) (I.ok.hd hc) it lo 1 n
  refine W.item i s _ _ hg st fun v h' tk hv st' kk => ?_
  obtain ⟨t, rfl⟩ := hv
  have I1 : Inv X pins σ H { s with heap := h', toks := tk } := I.turned (fun b o hb e => kk b o (by simpa using hb) e) f0 f1 f3 f4 f5
  refine ⟨_, rfl, go_of (s := { s with heap := h', toks := tk }) (n := "range_iterator") st' rfl rfl (by decide) ⟨.int (lo + i), H, I1, ⟨t, ?_⟩, ⟨rfl, rfl⟩, st', fun b hb => (hf b hb).1⟩⟩
  rw [Int.mul_one]
 done := by
  intro X hP hw hK hc i pins s σ H E I hf st hg
  subst hP hw hK
  obtain ⟨f0, f1, f2, f3, f4, f5⟩ := hf it (by simp)
  exact wpAny_pyNext_range_end (I.ok.hd hc) st (by have : n <= i := hg; omega) fun h' eb => ⟨rfl, I.turned (t' := s.toks) (fun b o hb e => eb b o hb e) f0 f1 f3 f4 f5⟩
 self := fun _ _ _ _ _ st h => wpAny_pyIter_rangeiter st h
end L2
namespace L2
open PySem PySem.Spec PyProof.Rows
section
variable {X : Cx} {tg : Expr}
theorem range_it {pins : List (Addr × Obj)} {σ : St} {H : Hp} {s : Shared} {R : It -> Hp -> Prop} {E : Value -> Shared -> Prop} {lo hi : Int} {t u v : Tok} {tk : Nat} (I : Inv X pins σ H s) (h1 : -(2 ^ 62) <= lo) (h2 : lo < 2 ^ 62) (h3 : -(2 ^ 62) <= hi) (h4 : hi < 2 ^ 62)
  (q : R (Itr lo (hi - lo).toNat) H) : wpAny (model X.prog X.w) X.A (pyIter (.ref s.heap.objs.size)) (PIE X pins σ tg R) E { s with heap := s.heap.push { cls := .type "range", data := .fields #[.int lo t, .int hi u, .int 1 v] }, toks := tk } := by
 refine wpAny_pyIter_range (IsRange.new ..) (small_one h1 h2 h3 h4) ?_
 have I1 : Inv X pins σ H { s with heap := s.heap.push { cls := .type "range", data := .fields #[.int lo t, .int hi u, .int 1 v] }, toks := tk } := I.kept fun b o e => Heap.get?_push_of_some _ e
 refine ⟨(s.heap.push { cls := .type "range", data := .fields #[.int lo t, .int hi u, .int 1 v] }).objs.size, [(s.heap.push { cls := .type "range", data := .fields #[.int lo t, .int hi u, .int 1 v] }).objs.size], _, _, H, rfl,
  I1.kept (t' := tk) fun b o e => Heap.get?_push_of_some _ e, turn_range _ lo (hi - lo).toNat, ?_, fun b hb => ?_, q⟩
 ·have e1 : lo + ((0 : Nat) : Int) * 1 = lo := by simp
  have e2 : (((hi - lo).toNat : Nat) : Int) - ((0 : Nat) : Int) = Builtin.Range.rangeSize lo hi 1 := by rw [rangeSize_one]; split <;> omega
  show IsRangeIter _ _ (lo + ((0 : Nat) : Int) * 1) ((((hi - lo).toNat : Nat) : Int) - ((0 : Nat) : Int)) 1
  rw [e1, e2]
  exact Heap.get?_push_size _ rfl
 ·have e : b = (s.heap.push { cls := .type "range", data := .fields #[.int lo t, .int hi u, .int 1 v] }).objs.size := by simpa using hb
  subst e
  exact I1.fpOk (Nat.le_refl _) (I1.hok.fresh (Nat.le_refl _))
def iRng2 (ta : TA) : TI := fun σ H R => ta σ H fun vs H1 => ∃ i j : Int, vs = [.int i, .int j] /\ (-(2 ^ 62) <= i /\ i < 2 ^ 62 /\ -(2 ^ 62) <= j /\ j < 2 ^ 62) /\ R (Itr i (j - i).toNat) H1
theorem pi_range2 {a b : Expr} {ta : TA} {p pos : Pos} (hg : Gl X "range") (hm : X.mg "range" = none) (ha : PA X [a, b] ta) (hs : starEach [a, b] X.env = [(false, eval a X.env), (false, eval b X.env)] := by rfl) (hs2 : starEach [b] X.env = [(false, eval b X.env)] := by rfl) :
  PI X tg (.Call (.Name "range" p) [a, b] [] pos) (iRng2 ta) := by
 intro pins s σ H R I h
 refine Call_ (ld_blt I hg hm boot_range (PyProof.Rows.callWith_type1 (thn (ha pos pins s σ H _ I h) fun us s1 ⟨vs, H1, I1, r1, q1⟩ => ?_) (by rw [hs, hs2]) (by rw [hs2]; rfl)))
 obtain ⟨i, j, e, ⟨q1, q2, q3, q4⟩, q⟩ := q1
 subst e
 cases r1 with
 | cons r rr =>
  cases rr with
  | cons r' rr =>
   cases rr
   obtain ⟨t, rfl⟩ := r
   obtain ⟨t', rfl⟩ := r'
   exact call_range_2 (range_it I1 q1 q2 q3 q4 q)
def tFor (wi : TI) (g : TG) (tb : TS) : TS := fun D σ H => wi σ H fun J H1 => ∃ W : Nat -> Nat -> St -> Hp -> Prop, (∃ m, W 0 m σ H1) /\ ∀ i m σ H, W i m σ H ->
 (J.stop i H /\ D.nx σ H) \/ (J.go i H /\ ∃ N : St -> Hp -> Prop, (∀ σ' H', N σ' H' -> ∃ m', m' < m /\ W (i + 1) m' σ' H') /\ ∀ x H', J.yld i H x H' -> g x σ H' fun σ2 H2 => tb { D with nx := N, ct := N, bk := D.nx } σ2 H2)
noncomputable def pinsAt (fp : List Addr) (h : Heap) : List (Addr × Obj) := fp.filterMap fun b => (h.get? b).map fun o => (b, o)
theorem mem_pinsAt {fp : List Addr} {h : Heap} {b : Addr} {o : Obj} (hb : b ∈ fp) (e : h.get? b = some o) : (b, o) ∈ pinsAt fp h := List.mem_filterMap.mpr ⟨b, hb, by rw [e]; rfl⟩
theorem of_pinsAt {fp : List Addr} {h : Heap} {p : Addr × Obj} (hp : p ∈ pinsAt fp h) : p.1 ∈ fp /\ h.get? p.1 = some p.2 := by
 obtain ⟨b, hb, e⟩ := List.mem_filterMap.mp hp
 cases q : h.get? b with
 | none => rw [q] at e; cases e
 | some o =>
  rw [q] at e
  have e' : (b, o) = p := Option.some.inj e
  subst e'
  exact ⟨hb, q⟩
theorem Inv.pinned {pins : List (Addr × Obj)} {σ : St} {H : Hp} {s : Shared} {fp : List Addr} (I : Inv X pins σ H s) (hf : ∀ b ∈ fp, FpOk X pins H b) (ho : ∀ b ∈ fp, ∃ o, s.heap.get? b = some o /\ ∀ v, o.data ≠ .cell v) : Inv X (pins ++ pinsAt fp s.heap) σ H s :=
 I.pins_of fun p hp => (List.mem_append.mp hp).elim (fun z => I.pin p (List.mem_append_right _ z)) fun z => by
  obtain ⟨hb, e⟩ := of_pinsAt z
  obtain ⟨f0, f1, f2, _⟩ := hf p.1 hb
  obtain ⟨o, e', d⟩ := ho p.1 hb
  rw [e] at e'; cases e'
  exact ⟨e, f0, f1, f2, d⟩
theorem Inv.unpinned {pins pl : List (Addr × Obj)} {σ : St} {H : Hp} {s : Shared} (I : Inv X (pins ++ pl) σ H s) : Inv X pins σ H s := I.pins_of fun p hp => I.pin p (List.mem_append_right _ (List.mem_append_left _ hp))
theorem ps_for {iter : Expr} {body : List Stmt} {wi : TI} {g : TG} {tb : TS} {pos : Pos} (hp : PassesOwn (model X.prog X.w) X.A X.env X.xe) (hc : X.calm = true) (hi : PI X tg iter wi) (hg : PG X tg g) (hb : PSs X body tb)
  (hs : ∀ x, foldedSetIterable iter X.env x = pure x := by intro _; rfl) : PS X (.For tg iter body [] pos) (tFor wi g tb) := by
 intro pins s σ H D I h
 refine wpAny_For (thn (hi pins s σ H _ I h) fun v s1 h1 => thn h1 fun itv s2 h2 => ?_) hs
 obtain ⟨it, fp, tn, J, H2, e, I2, T, st2, f2, W, ⟨m0, w0⟩, turn⟩ := h2
 subst e
 -- what stays true of the iterator's objects through the loop
 have stat : ∀ {H' : Hp}, (∀ b ∈ fp, H' b = none) -> ∀ b ∈ fp, FpOk X pins H' b := fun hn b hb => ⟨hn b hb, (f2 b hb).2⟩
 refine codeAny_forLoop_any (fun n s' => ∃ i σ' H', Inv X pins σ' H' s' /\ tn i s'.heap /\ (∀ b ∈ fp, H' b = none) /\ W i n σ' H') ?_ m0 ⟨0, σ, H2, I2, st2, fun b hb => (f2 b hb).1, w0⟩
 rintro n s3 ⟨i, σ3, H3, I3, st3, fr3, w3⟩
 rcases turn i n σ3 H3 w3 with ⟨stop, qn⟩ | ⟨go, N, hN, step⟩
 ·refine wpAny_passesOwn hp (thn (T.done X rfl rfl rfl hc i pins s3 σ3 H3 X.xe I3 (stat fr3) st3 stop) fun r s4 ⟨hr, I4⟩ => ?_)
  subst hr
  exact wpAny_execs_nil ⟨σ3, H3, I4, qn⟩
 ·refine wpAny_passesOwn hp (thn (T.item X rfl rfl rfl hc i pins s3 σ3 H3 X.xe I3 (stat fr3) st3 go) fun r s4 ⟨u, hr, h4⟩ => ?_)
  subst hr
  refine wpAny_passesOwn hp (thn h4 fun _ s5 ⟨x, H5, I5, r5, y5, st5, fr5⟩ => ?_)
  have I5' := I5.pinned (stat fr5) (T.obj _ _ st5)
  refine wpAny_passesOwn hp (thn (hg _ s5 σ3 H5 x u _ I5' r5 (step x H5 y5)) fun _ s6 ⟨σ6, H6, I6, q6⟩ => ?_)
  refine wpAny_passesOwn hp (thn (hb _ s6 σ6 H6 _ I6 q6) fun f s7 q7 => ?_)
  have again : ∀ {σ7 : St} {H7 : Hp}, Inv X (pins ++ pinsAt fp s5.heap) σ7 H7 s7 -> N σ7 H7 -> ∃ m, m < n /\ ∃ i σ' H', Inv X pins σ' H' s7 /\ tn i s7.heap /\ (∀ b ∈ fp, H' b = none) /\ W i m σ' H' := fun {σ7 H7} I7 n7 => by
   obtain ⟨m', hm, w7⟩ := hN σ7 H7 n7
   refine ⟨m', hm, i + 1, σ7, H7, I7.unpinned, T.keep _ _ _ st5 fun b hb o e => (I7.pin (b, o) (List.mem_append_right _ (List.mem_append_right _ (mem_pinsAt hb e)))).1, fun b hb => ?_, w7⟩
   obtain ⟨o, e, d⟩ := T.obj _ _ st5 b hb
   exact (I7.pin (b, o) (List.mem_append_right _ (List.mem_append_right _ (mem_pinsAt hb e)))).2.1
  cases f with
  | next => obtain ⟨σ7, H7, I7, n7⟩ := q7; exact again I7 n7
  | cont => obtain ⟨σ7, H7, I7, n7⟩ := q7; exact again I7 n7
  | brk => obtain ⟨σ7, H7, I7, q7⟩ := q7; exact ⟨σ7, H7, I7.unpinned, q7⟩
  | ret v => obtain ⟨x7, σ7, H7, I7, r7, q7⟩ := q7; exact ⟨x7, σ7, H7, I7.unpinned, r7, q7⟩
end
end L2
namespace L2
open PySem PySem.Spec PyProof.Rows
abbrev R2 := V -> V -> Hp -> VK -> Prop
def OpR (X : Cx) (f : Value -> Value -> Sem Value) (r : R2) : Prop :=
 ∀ (pins : List (Addr × Obj)) (s : Shared) (σ : St) (H : Hp) (x y : V) (v u : Value) (Q : VK), Inv X pins σ H s -> RelV x v -> RelV y u -> r x y H Q ->
  wpAny (model X.prog X.w) X.A (f v u) (EP X pins σ Q) X.xe s
def UnR (X : Cx) (f : Value -> Sem Value) (r : V -> Hp -> VK -> Prop) : Prop :=
 ∀ (pins : List (Addr × Obj)) (s : Shared) (σ : St) (H : Hp) (x : V) (v : Value) (Q : VK), Inv X pins σ H s -> RelV x v -> r x H Q ->
  wpAny (model X.prog X.w) X.A (f v) (EP X pins σ Q) X.xe s
def CallR (X : Cx) (f : Value) (r : List V -> Hp -> VK -> Prop) : Prop :=
 ∀ (pins : List (Addr × Obj)) (s : Shared) (σ : St) (H : Hp) (xs : List V) (us : List Value) (Q : VK), Inv X pins σ H s -> Vals xs us -> r xs H Q ->
  wpAny (model X.prog X.w) X.A (call f us) (EP X pins σ Q) X.xe s
def TruR (X : Cx) (r : V -> Hp -> (Bool -> Hp -> Prop) -> Prop) : Prop :=
 ∀ (pins : List (Addr × Obj)) (s : Shared) (σ : St) (H : Hp) (x : V) (v : Value) (Q : Bool -> Hp -> Prop), Inv X pins σ H s -> RelV x v -> r x H Q ->
  wpAny (model X.prog X.w) X.A (truthy v) (TP X pins σ Q) X.xe s
def tOp (r : R2) (ta tb : TE) : TE := fun σ H Q => ta σ H fun x H1 => tb σ H1 fun y H2 => r x y H2 Q
def tUn (r : V -> Hp -> VK -> Prop) (ta : TE) : TE := fun σ H Q => ta σ H fun x H1 => r x H1 Q
def rI (C : Int -> Int -> Prop) (g : Int -> Int -> V) : R2 := fun x y H Q => ∃ i j, x = .int i /\ y = .int j /\ C i j /\ Q (g i j) H
def rI0 (g : Int -> Int -> V) : R2 := fun x y H Q => ∃ i j, x = .int i /\ y = .int j /\ Q (g i j) H
def rU (g : Int -> V) : V -> Hp -> VK -> Prop := fun x H Q => ∃ i, x = .int i /\ Q (g i) H
section
variable {X : Cx} {a b c : Expr} {ta tb tc : TE} {pos : Pos}
theorem binT (ha : PE X a ta) (hb : PE X b tb) {pins : List (Addr × Obj)} {s : Shared} {σ : St} {H : Hp} {R : V -> V -> Hp -> Prop} (I : Inv X pins σ H s)
  (h : ta σ H fun x H1 => tb σ H1 fun y H2 => R x y H2) {Q : Value -> Shared -> Prop} {f : Value -> Value -> Sem Value}
  (hf : ∀ v u s2 x y H2, Inv X pins σ H2 s2 -> RelV x v -> RelV y u -> R x y H2 -> wpAny (model X.prog X.w) X.A (f v u) Q X.xe s2) :
  wpAny (model X.prog X.w) X.A (eval a X.env) (fun v s₁ => wpAny (model X.prog X.w) X.A (eval b X.env) (fun u s₂ => wpAny (model X.prog X.w) X.A (f v u) Q X.xe s₂) X.xe s₁) X.xe s := by
 refine thn (ha pins s σ H _ I h) fun v s1 ⟨x, H1, I1, r1, q1⟩ => ?_
 refine thn (hb pins s1 σ H1 _ I1 q1) fun u s2 ⟨y, H2, I2, r2, q2⟩ => ?_
 exact hf v u s2 x y H2 I2 r1 r2 q2
theorem pe_op {op : Operator} {r : R2} (ho : OpR X (binaryOp op) r) (ha : PE X a ta) (hb : PE X b tb) : PE X (.BinOp a op b pos) (tOp r ta tb) := by
 intro pins s σ H Q I h
 exact wpAny_BinOp (binT ha hb I h fun v u s2 x y H2 I2 rx ry q => ho pins s2 σ H2 x y v u Q I2 rx ry q)
theorem pe_un {op : UnaryOp} {r : V -> Hp -> VK -> Prop} (ho : UnR X (unaryOp op) r) (ha : PE X a ta) : PE X (.UnaryOp op a pos) (tUn r ta) := by
 intro pins s σ H Q I h
 exact UnaryOp_ (thn (ha pins s σ H _ I h) fun v s1 ⟨x, H1, I1, r1, q1⟩ => ho pins s1 σ H1 x v Q I1 r1 q1)
theorem opI {f : Value -> Value -> Sem Value} {C : Int -> Int -> Prop} {g : Int -> Int -> Int}
  (rule : ∀ (i j : Int) (t u : Tok) (s : Shared) (Q : Value -> Shared -> Prop) (E : Value -> Shared -> Prop), C i j -> Q (.int (g i j) s.toks) { s with toks := s.toks + 1 } -> wpAny (model X.prog X.w) X.A (f (.int i t) (.int j u)) Q E s) :
  OpR X f (rI C fun i j => .int (g i j)) := by
 intro pins s σ H x y v u Q I rx ry h
 obtain ⟨i, j, rfl, rfl, hc, q⟩ := h
 obtain ⟨t, rfl⟩ := rx
 obtain ⟨t', rfl⟩ := ry
 exact rule i j t t' s _ _ hc ⟨.int (g i j), H, I.tok _, ⟨_, rfl⟩, q⟩
theorem opI0 {f : Value -> Value -> Sem Value} {g : Int -> Int -> Int}
  (rule : ∀ (i j : Int) (t u : Tok) (s : Shared) (Q : Value -> Shared -> Prop) (E : Value -> Shared -> Prop), Q (.int (g i j) s.toks) { s with toks := s.toks + 1 } -> wpAny (model X.prog X.w) X.A (f (.int i t) (.int j u)) Q E s) :
  OpR X f (rI0 fun i j => .int (g i j)) := by
 intro pins s σ H x y v u Q I rx ry h
 obtain ⟨i, j, rfl, rfl, q⟩ := h
 obtain ⟨t, rfl⟩ := rx
 obtain ⟨t', rfl⟩ := ry
 exact rule i j t t' s _ _ ⟨.int (g i j), H, I.tok _, ⟨_, rfl⟩, q⟩
theorem opB0 {f : Value -> Value -> Sem Value} {g : Int -> Int -> Bool}
  (rule : ∀ (i j : Int) (t u : Tok) (s : Shared) (Q : Value -> Shared -> Prop) (E : Value -> Shared -> Prop), Q (.bool (g i j)) s -> wpAny (model X.prog X.w) X.A (f (.int i t) (.int j u)) Q E s) :
  OpR X f (rI0 fun i j => .bl (g i j)) := by
 intro pins s σ H x y v u Q I rx ry h
 obtain ⟨i, j, rfl, rfl, q⟩ := h
 obtain ⟨t, rfl⟩ := rx
 obtain ⟨t', rfl⟩ := ry
 exact rule i j t t' s _ _ ⟨.bl (g i j), H, I, rfl, q⟩
def CDiv (i j : Int) : Prop := 0 < j /\ j < 1073741824
def CPow (i j : Int) : Prop := 0 <= j /\ j <= 1000000 /\ i.natAbs < 2 ^ 64
def CMul (i j : Int) : Prop := (-(2 ^ 64) < i /\ i < 2 ^ 64) \/ (-(2 ^ 64) < j /\ j < 2 ^ 64)
theorem op_add : OpR X (binaryOp .Add) (rI0 fun i j => .int (i + j)) := opI0 fun _ _ _ _ _ _ _ q => add_int q
theorem op_sub : OpR X (binaryOp .Sub) (rI0 fun i j => .int (i - j)) := opI0 fun _ _ _ _ _ _ _ q => sub_int q
theorem op_fdiv : OpR X (binaryOp .FloorDiv) (rI CDiv fun i j => .int (i / j)) := opI fun i j _ _ _ _ _ hc q => by
 have h1 : (0 : Int) < j := hc.1
 have h2 : j < 1073741824 := hc.2
 exact floordiv_int (by omega) (by rw [Int.fdiv_eq_ediv_of_nonneg i (by omega)]; exact q) (.inl (PyProof.noPylong_small (by omega)))
theorem op_mod : OpR X (binaryOp .Mod) (rI (fun _ j => 0 < j) fun i j => .int (i % j)) := opI fun i j _ _ _ _ _ hc q => by
 have h1 : (0 : Int) < j := hc
 exact mod_int' (by omega) (by rw [Int.fmod_eq_emod_of_nonneg i (by omega)]; exact q)
theorem op_pow : OpR X (binaryOp .Pow) (rI CPow fun i j => .int (i ^ j.toNat)) := opI fun _ _ _ _ _ _ _ hc q => pow_int_small hc.1 hc.2.1 hc.2.2 q
theorem unI {f : Value -> Sem Value} {g : Int -> Int}
  (rule : ∀ (i : Int) (t : Tok) (s : Shared) (Q : Value -> Shared -> Prop) (E : Value -> Shared -> Prop), Q (.int (g i) s.toks) { s with toks := s.toks + 1 } -> wpAny (model X.prog X.w) X.A (f (.int i t)) Q E s) :
  UnR X f (rU fun i => .int (g i)) := by
 intro pins s σ H x v Q I rx h
 obtain ⟨i, rfl, q⟩ := h
 obtain ⟨t, rfl⟩ := rx
 exact rule i t s _ _ ⟨.int (g i), H, I.tok _, ⟨_, rfl⟩, q⟩
theorem un_neg : UnR X (unaryOp .USub) (rU fun i => .int (-i)) := unI fun _ _ _ _ _ q => neg_int q
end
section
variable {X : Cx} {a b c : Expr} {ta tb tc : TE} {pos : Pos}
theorem op_lt : OpR X (compareOp .Lt) (rI0 fun i j => .bl (decide (i < j))) := opB0 fun _ _ _ _ _ _ _ q => lt_int q
theorem op_le : OpR X (compareOp .LtE) (rI0 fun i j => .bl (decide (i <= j))) := opB0 fun _ _ _ _ _ _ _ q => le_int q
theorem op_ge : OpR X (compareOp .GtE) (rI0 fun i j => .bl (decide (j <= i))) := opB0 fun _ _ _ _ _ _ _ q => ge_int q
theorem OpR.or {f : Value -> Value -> Sem Value} {r r' : R2} (h : OpR X f r) (h' : OpR X f r') : OpR X f (fun x y H Q => r x y H Q \/ r' x y H Q) := by
 intro pins s σ H x y v u Q I rx ry q
 rcases q with q | q
 ·exact h pins s σ H x y v u Q I rx ry q
 ·exact h' pins s σ H x y v u Q I rx ry q
theorem nomark (b : Expr) {op : CmpOp} (h : op ≠ .In := by decide) (h2 : op ≠ .NotIn := by decide) : behindInMarks op b = false := by
 have e1 : (op == CmpOp.In) = false := by cases op <;> first | rfl | exact absurd rfl h
 have e2 : (op == CmpOp.NotIn) = false := by cases op <;> first | rfl | exact absurd rfl h2
 cases b <;> simp [behindInMarks, e1, e2]
theorem pe_cmpR {op : CmpOp} {r : R2} (ho : OpR X (compareOp op) r) (ha : PE X a ta) (hb : PE X b tb) (hm : behindInMarks op b = false) : PE X (.Compare a [op] [b] pos) (tOp r ta tb) := by
 intro pins s σ H Q I h
 exact wpAny_Compare1 (binT ha hb I h fun v u s2 x y H2 I2 rx ry q => ho pins s2 σ H2 x y v u Q I2 rx ry q) hm
def tTest (t : TE) : TT := fun σ H Q => t σ H fun x H' => ∃ k, x = .bl k /\ Q k H'
theorem pt_cmpR {op : CmpOp} {r : R2} (ho : OpR X (compareOp op) r) (ha : PE X a ta) (hb : PE X b tb) (hm : behindInMarks op b = false) : PT X (.Compare a [op] [b] pos) (tTest (tOp r ta tb)) := by
 intro pins s σ H Q I h
 refine wpAny_isTrue_Compare1 (thn (ha pins s σ H _ I h) fun v s1 ⟨x, H1, I1, r1, q1⟩ => thn (hb pins s1 σ H1 _ I1 q1) fun u s2 ⟨y, H2, I2, r2, q2⟩ =>
  thn (ho pins s2 σ H2 x y v u _ I2 r1 r2 q2) fun c s3 ⟨z, H3, I3, r3, k, e, q3⟩ => ?_) hm
 subst e
 cases r3
 exact wpAny_truthy_bool ⟨H3, I3, q3⟩
def TruV (K : PySem.W.Frag) (x : V) (H : Hp) (k : Bool) : Prop :=
 match x with
 | .non => k = false
 | .bl b => k = b
 | .int i => k = (i != 0)
 | .str y => y.length <= sizeLine /\ k = ((y.length : Int) != 0)
 | .byt y => y.size <= sizeLine /\ k = ((y.size : Int) != 0)
 | .ref p => (∃ xs, SqL K H p xs /\ k = !xs.isEmpty) \/ (∃ xs, SqT K H p xs /\ k = !xs.isEmpty) \/ ∃ kvs, H p = some (.dK kvs) /\ k = !kvs.isEmpty
 | _ => False
theorem isEmpty_kv {κ : Type} {kvs : List (κ × V)} {vs : List (κ × Value)} (r : KV kvs vs) : (!vs.isEmpty) = !kvs.isEmpty := by
 cases r <;> rfl
theorem isEmpty_of {xs : List V} {its : List Value} (r : Vals xs its) : (!its.toArray.isEmpty) = !xs.isEmpty := by
 cases r <;> simp
theorem line63 : (sizeLine : Nat) < 2 ^ 63 := by rw [sizeLine_eq]; decide
theorem tru_ok : TruR X (fun x H Q => ∃ k, TruV X.K x H k /\ Q k H) := by
 intro pins s σ H x v Q I rx h
 obtain ⟨k, e, q⟩ := h
 have hl := line63
 have hs : sizeLine = 16777216 := sizeLine_eq
 cases x with
 | non =>
  cases rx
  have e' : k = false := e
  subst e'
  exact truthy_none ⟨H, I, q⟩
 | bl b =>
  cases rx
  have e' : k = b := e
  subst e'
  exact wpAny_truthy_bool ⟨H, I, q⟩
 | int i =>
  obtain ⟨t, rfl⟩ := rx
  have e' : k = (i != 0) := e
  subst e'
  exact PySem.P.truthy_int ⟨H, I, q⟩
 | str y =>
  obtain ⟨t, rfl⟩ := rx
  obtain ⟨hy, e'⟩ : y.length <= sizeLine /\ k = ((y.length : Int) != 0) := e
  subst e'
  exact PySem.P.truthy_str (by omega) ⟨H, I.tok _, q⟩
 | byt y =>
  obtain ⟨t, rfl⟩ := rx
  obtain ⟨hy, e'⟩ : y.size <= sizeLine /\ k = ((y.size : Int) != 0) := e
  subst e'
  exact PySem.W.truthy_bytes (by omega) ⟨H, I.tok _, q⟩
 | ref p =>
  cases rx
  have e' : (∃ xs, SqL X.K H p xs /\ k = !xs.isEmpty) \/ (∃ xs, SqT X.K H p xs /\ k = !xs.isEmpty) \/ ∃ kvs, H p = some (.dK kvs) /\ k = !kvs.isEmpty := e
  rcases e' with ⟨xs, hx, e'⟩ | ⟨xs, hx, e'⟩ | ⟨kvs, hx, e'⟩
  ·subst e'
   obtain ⟨its, r, pl, hz⟩ := I.list hx
   have hlen := r.length
   exact wpAny_truthy_list pl.isList (by simp only [List.size_toArray]; omega) ⟨H, I.tok _, by rw [isEmpty_of r]; exact q⟩
  ·subst e'
   obtain ⟨its, r, pl, hz⟩ := I.tuple hx
   have hlen := r.length
   exact truthy_tuple pl (by simp only [List.size_toArray]; omega) ⟨H, I.tok _, by rw [isEmpty_of r]; exact q⟩
  ·subst e'
   obtain ⟨hz, hS, vs, r, m⟩ : kvs.length <= sizeLine /\ (p == sysModules) = false /\ ∃ vs, KV kvs vs /\ s.heap.DictOf (mixKind X.prog X.w) p vs := I.hok p _ hx
   have hlen : kvs.length = vs.length := Paired.length r
   exact wpAny_truthy_dict hS m (by omega) ⟨H, I.tok _, by rw [isEmpty_kv r]; exact q⟩
 | _ => exact (show False from e).elim
theorem pt_truth (ha : PE X a ta) (he : ∀ whole, isTrue a X.env whole = (do let v <- whole; standAt a.pos; holding [v] (truthy v))) :
  PT X a (fun σ H Q => ta σ H fun x H' => ∃ k, TruV X.K x H' k /\ Q k H') := by
 intro pins s σ H Q I h
 exact isTrue_plain (thn (ha pins s σ H _ I h) fun v s1 ⟨x, H1, I1, r1, q1⟩ => tru_ok pins s1 σ H1 x v Q I1 r1 q1) (he _)
theorem op_add_str : OpR X (binaryOp .Add) (fun x y H Q => ∃ i j, x = .str i /\ y = .str j /\ i.length + j.length <= sizeLine /\ Q (.str (i ++ j)) H) := by
 intro pins s σ H x y v u Q I rx ry h
 obtain ⟨i, j, rfl, rfl, hz, q⟩ := h
 obtain ⟨t, rfl⟩ := rx
 obtain ⟨t', rfl⟩ := ry
 exact add_str (fun t' tk => ⟨.str (i ++ j), H, I.tok _, ⟨_, rfl⟩, q⟩) hz
theorem vals1 {x : V} {us : List Value} (r : Vals [x] us) : ∃ u, us = [u] /\ RelV x u := by
 cases r with
 | cons r1 r2 => cases r2; exact ⟨_, rfl, r1⟩
theorem vals2 {x y : V} {us : List Value} (r : Vals [x, y] us) : ∃ u w', us = [u, w'] /\ RelV x u /\ RelV y w' := by
 cases r with
 | cons r1 r2 =>
  cases r2 with
  | cons r3 r4 => cases r4; exact ⟨_, _, rfl, r1, r3⟩
theorem call_min2 (hc : X.calm = true) : CallR X (.builtin "min") (fun xs H Q => ∃ i j, xs = [.int i, .int j] /\ Q (.int (if j < i then j else i)) H) := by
 intro pins s σ H xs us Q I r h
 obtain ⟨i, j, rfl, q⟩ := h
 obtain ⟨u, w', rfl, ⟨t, rfl⟩, ⟨t', rfl⟩⟩ := vals2 r
 refine min_two_ints (I.ok.hd hc) fun h' tk k => ⟨_, H, I.kept k, ?_, q⟩
 by_cases hj : j < i
 ·rw [if_pos hj, if_pos hj]; exact ⟨_, rfl⟩
 ·rw [if_neg hj, if_neg hj]; exact ⟨_, rfl⟩
end
end L2
namespace L2
open PySem PySem.Spec PyProof.Rows
section
variable {prog : Program} {w : World} {A : Around} {E : Value -> Shared -> Prop} {s : Shared} {K : PySem.W.Frag} {x dx C f : Addr} {mA : Str -> Option Value} {name : Str} {v : Value}
end
section
variable {P : Program} {w : World} {H H' : Hp} {h h' : Heap} {a C dx : Addr} {fs fs' : List (Str × V)}
end
section
variable {X : Cx} {pins : List (Addr × Obj)} {σ : St} {H : Hp} {s : Shared} {a C dx : Addr} {fs : List (Str × V)} {f : Str} {v : V} {A : Around} {E : Value -> Shared -> Prop}
end
section
variable {X : Cx} {o e value : Expr} {f : Str} {pos pos' tpos : Pos} {ta tv : TE}
end
section
variable {X : Cx} {pins : List (Addr × Obj)} {σ : St} {H : Hp} {s : Shared} {A : Around} {E : Value -> Shared -> Prop} {Q : Value -> Shared -> Prop} {c : Value} {b : Bool}
end
end L2
namespace L2
open PySem PySem.Spec PyProof.Rows
structure Room (k : Nat) (A : Around) : Prop where
 hd : A.handled = none
 dp : A.depth + 3 * k + 5 < recursionLimit
 un : A.units + 16 * k + 200 < cLine
theorem Room.mono {j k : Nat} {A : Around} (r : Room k A) (h : j <= k) : Room j A := ⟨r.hd, by have := r.dp; omega, by have := r.un; omega⟩
theorem Room.deeper {k : Nat} {A : Around} (r : Room (k + 1) A) (env : Env) : Room k (A.deeper env) :=
 ⟨r.hd, by have := r.dp; show A.depth + 1 + 3 * k + 5 < _; omega, by have := r.un; show A.units + 3 + 16 * k + 200 < _; omega⟩
theorem Room.depth {k : Nat} {A : Around} (r : Room k A) : A.depth < recursionLimit := by have := r.dp; omega
theorem Room.units {k : Nat} {A : Around} (r : Room k A) : A.units + 64 < cLine := by have := r.un; omega
def tNil : TA := fun _ H Q => Q [] H
def tCons (ta : TE) (tr : TA) : TA := fun σ H Q => ta σ H fun x H1 => tr σ H1 fun xs H2 => Q (x :: xs) H2
section
variable {X : Cx} {e : Expr} {es : List Expr} {te : TE} {t : TA} {pos : Pos}
theorem pa_nil : PA X [] tNil := fun _ _ _ _ H Q I h => Calls.spliced_nil ⟨[], H, I, .nil, h⟩
theorem pa_cons (ha : PE X e te) (hr : PA X es t) (hs : starEach (e :: es) X.env = (false, eval e X.env) :: starEach es X.env := by rfl) : PA X (e :: es) (tCons te t) := by
 intro pos pins s σ H Q I h
 rw [hs]
 show wpAny _ _ (spliced ((false, eval e X.env) :: backTo pos (starEach es X.env))) _ _ s
 refine Calls.spliced_cons (thn (ha pins s σ H _ I h) fun u s1 ⟨x, H1, I1, r1, q1⟩ => ?_)
 exact thn (hr pos pins s1 σ H1 _ I1 q1) fun us s2 ⟨xs, H2, I2, r2, q2⟩ => ⟨x :: xs, H2, I2, .cons r1 r2, q2⟩
def tTup (t : TA) : TE := fun σ H Q => t σ H fun xs H1 => xs.length <= sizeLine /\ ∀ p, H1 p = none -> Q (.ref p) (upd H1 p (.tup xs))
def tLst (t : TA) : TE := fun σ H Q => t σ H fun xs H1 => xs.length <= sizeLine /\ ∀ p, H1 p = none -> Q (.ref p) (upd H1 p (.lst xs))
theorem pe_tup {x1} (h : PA X es t) : PE X (.Tuple es x1 pos) (tTup t) := by
 intro pins s σ H Q I hq
 refine wpAny_Tuple_spliced (thn (h pos pins s σ H _ I hq) fun us s1 ⟨xs, H1, I1, r, z, q⟩ => ⟨by rw [<- r.length]; exact z, ?_⟩)
 have hf : H1 s1.heap.objs.size = none := I1.hok.fresh (Nat.le_refl _)
 refine ⟨.ref s1.heap.objs.size, upd H1 s1.heap.objs.size (.tup xs), I1.laid (t' := s1.toks) (fun b u e => Heap.get?_push_of_some _ e) (Nat.le_refl _) ?_, rfl, q _ hf⟩
 exact ⟨z, us, r, ⟨_, Heap.get?_push_size _ rfl, rfl, _, rfl⟩⟩
theorem pe_lst (h : PA X es t) : PE X (.List es pos) (tLst t) := by
 intro pins s σ H Q I hq
 refine wpAny_List_spliced (thn (h pos pins s σ H _ I hq) fun us s1 ⟨xs, H1, I1, r, z, q⟩ => ⟨by rw [<- r.length]; exact z, ?_⟩)
 have hf : H1 s1.heap.objs.size = none := I1.hok.fresh (Nat.le_refl _)
 refine ⟨.ref s1.heap.objs.size, upd H1 s1.heap.objs.size (.lst xs), I1.laid (t' := s1.toks) (fun b u e => Heap.get?_push_of_some _ e) (Nat.le_refl _) ?_, rfl, q _ hf⟩
 exact ⟨z, us, 0, r, Heap.get?_push_size _ rfl⟩
end
abbrev Sp := List V -> Hp -> VK -> XK -> Prop
abbrev CXT := List Env -> Hp -> Shared -> XK -> Value -> Shared -> Prop
structure Env0 (P : Program) (w : World) (K : PySem.W.Frag) (mg : Str -> Option Value) (base : Heap) (A : Around) (outer : List Env) (s : Shared) (H : Hp) : Prop where
 frames : A.frames = some outer
 mod : Mod K mg base
 bs : ∀ b o, base.get? b = some o -> s.heap.get? b = some o /\ H b = none
 bsz : base.objs.size <= s.heap.objs.size
 funs : s.heap.FunFrames base outer
 frf : ∀ b ∈ frs outer, H b = none
 hok : HOk P w H s.heap
 bare : AllBare s.gens
def CE (outer : List Env) (P : Program) (w : World) (H : Hp) (s : Shared) (Q : VK) (u : Value) (s' : Shared) : Prop :=
 ∃ v H', s'.os = s.os /\ AllBare s'.gens /\ Un (frs outer) [] H H' s.heap s'.heap /\ HOk P w H' s'.heap /\ RelV v u /\ Q v H'
def CR (CX : CXT) (outer : List Env) (P : Program) (w : World) (H : Hp) (s : Shared) (Q : VK) (E : XK) (r : Result) (s' : Shared) : Prop :=
 match r with
 | .ok (.ret u) => CE outer P w H s Q u s'
 | .ok _ => False
 | .error e => CX outer H s E e s'
structure FnOk (P : Program) (w : World) (K : PySem.W.Frag) (mg : Str -> Option Value) (base : Heap) (CX : CXT) (k : Nat) (f : Addr) (fd : FuncData) (ps : List Str) (sp : Sp) : Prop where
 len : ∀ vs H Q E, sp vs H Q E -> vs.length = ps.length
 run : ∀ (A : Around) (outer : List Env) (s : Shared) (H : Hp) (args : Args) (us : List Value) (vs : List V) (Q : VK) (E : XK), Room k A -> Env0 P w K mg base A outer s H -> BindsTo s fd args (ps.zip us) -> Vals vs us -> sp vs H Q E ->
  codeAny (model P w) A (.call (.ref f) args) (CR CX outer P w H s Q E) s
section
variable {X : Cx} {pins : List (Addr × Obj)} {σ : St} {H : Hp} {s s' : Shared}
theorem Inv.env0 (I : Inv X pins σ H s) : Env0 X.prog X.w X.K X.mg X.base X.A X.stack s H :=
 ⟨I.ok.frames, I.ok.mod, I.bs, Nat.le_trans I.ok.bsz I.sz, I.stack, I.stkFree, I.hok, I.bare⟩
theorem Inv.after {Q : VK} {u : Value} (I : Inv X pins σ H s) (h : CE X.stack X.prog X.w H s Q u s') : EP X pins σ Q u s' := by
 obtain ⟨v, H', os, bare, un, hok, r, q⟩ := h
 obtain ⟨hh, g, d, t, os'⟩ := s'
 obtain rfl : os' = s.os := os
 exact ⟨v, H', I.call (h' := hh) (g' := g) (d' := d) (t' := t) (ch := []) un hok bare (fun b z => absurd z (by simp)), r, q⟩
end
def tCall (sp : Sp) (dvs : List V) (E : XK) (t : TA) : TE := fun σ H Q => t σ H fun vs H1 => sp (vs ++ dvs) H1 Q E
def Binds (K : PySem.W.Frag) (fd : FuncData) (ps : List Str) (ds : List Value) : Prop :=
 ∀ (s : Shared) (us : List Value), K.In s.heap -> (us ++ ds).length = ps.length -> BindsTo s fd ⟨us, []⟩ (ps.zip (us ++ ds))
theorem Binds.all {K : PySem.W.Frag} {fd : FuncData} {ps : List Str} (h : ∀ us : List Value, us.length = ps.length -> bindArgs fd ⟨us, []⟩ = pure (ps.zip us)) : Binds K fd ps [] := fun s us _ hl => by
 rw [List.append_nil] at hl ⊢
 exact .of_eq (h us hl)
def Passes (CX : CXT) (X : Cx) (E : XK) : Prop := ∀ (pins : List (Addr × Obj)) (σ : St) (H : Hp) (s : Shared) (e : Value) (s' : Shared), Inv X pins σ H s -> CX X.stack H s E e s' -> X.xe e s'
section
variable {X : Cx} {CX : CXT} {k : Nat} {f C : Addr} {fd : FuncData} {ps : List Str} {sp : Sp} {dvs : List V} {ds : List Value} {E : XK} {x m : Str} {p pos apos : Pos} {e o : Expr} {es : List Expr} {ta : TE} {t : TA}
theorem run_fn {pins : List (Addr × Obj)} {σ : St} {H : Hp} {s : Shared} {Q : VK} {us : List Value} {vs : List V} (F : FnOk X.prog X.w X.K X.mg X.base CX k f fd ps sp) (hr : Room k X.A) (hb : Binds X.K fd ps ds) (hd : Vals dvs ds) (hx : Passes CX X E)
  (I : Inv X pins σ H s) (r : Vals vs us) (h : sp (vs ++ dvs) H Q E) : wpAny (model X.prog X.w) X.A (call (.ref f) us) (EP X pins σ Q) X.xe s := by
 have r2 : Vals (vs ++ dvs) (us ++ ds) := r.append hd
 have hl : (us ++ ds).length = ps.length := by rw [<- r2.length]; exact F.len _ _ _ _ h
 refine wpAny_call (codeAny_mono (F.run X.A X.stack s H ⟨us, []⟩ (us ++ ds) (vs ++ dvs) Q E hr I.env0 (hb s us I.kIn hl) r2 h) fun r s' hq => ?_)
 cases r with
 | error e => exact hx pins σ H s e s' I hq
 | ok fl =>
  cases fl with
  | ret u => exact I.after hq
  | next => exact False.elim hq
  | brk => exact False.elim hq
  | cont => exact False.elim hq
theorem pe_call (F : FnOk X.prog X.w X.K X.mg X.base CX k f fd ps sp) (hr : Room k X.A) (hg : Gl X x) (hm : X.mg x = some (.ref f)) (hk : PySem.W.keepIn X.K (.ref f) = true) (hb : Binds X.K fd ps ds) (hd : Vals dvs ds) (hx : Passes CX X E)
  (ha : PA X (e :: es) t) (hdb : (x == ("__debug__" : Str)) = false := by decide) (he : starEach (e :: es) X.env = (false, eval e X.env) :: starEach es X.env := by rfl) (hpl : (backTo pos (starEach es X.env)).any (·.1) = false := by rfl) :
  PE X (.Call (.Name x p) (e :: es) [] pos) (tCall sp dvs E t) := by
 intro pins s σ H Q I h
 refine wpAny_Call_Name_kw (ld_glob I hg hm ?_ hdb)
 refine PySem.W.callWith_K (h₀ := X.base) I.ok.mod.kin hk (thn (ha pos pins s σ H _ I h) fun us s1 ⟨vs, H1, I1, r, q⟩ => ⟨I1.kIn, ?_⟩) he hpl
 exact run_fn F hr hb hd hx I1 r q
end
section
variable {X : Cx} {CX : CXT} {k : Nat} {f C : Addr} {fd : FuncData} {ps ks : List Str} {sp : Sp} {E : XK} {x m : Str} {p pos apos kpos : Pos} {e o : Expr} {es : List Expr} {kws : List Keyword} {te ta : TE} {t tk : TA} {nm : Option Str}
variable {g : List Value -> List Value -> List Value} {gV : List V -> List V -> List V}
end
structure FnScope (N P : List Str) (sc : Scope) : Prop where
 kind : sc.kind = .function
 co : sc.isCoroutine = false
 gen : sc.isGenerator = false
 nd : N.Nodup
 pre : N.take P.length = P
 par : ∀ x ∈ P, sc.names.lookup x = some .local \/ sc.names.lookup x = some .cell
 nofree : ∀ y ∈ sc.names, y.2 ≠ .free
theorem bindL_out {kindOf : Str -> Option NameKind} {x : Str} : ∀ {binds : List (Str × Value)} {m : Str -> Option Value}, (∀ v, (x, v) ∉ binds) -> bindL kindOf binds m x = m x
 | [], _, _ => rfl
 | (n, v) :: r, m, h => by
  unfold bindL
  rw [bindL_out fun w hw => h w (List.mem_cons_of_mem _ hw)]
  split
  ·have : x ≠ n := by rintro rfl; exact h v List.mem_cons_self
   simp [this]
  ·rfl
theorem bindC_out {kindOf : Str -> Option NameKind} {x : Str} : ∀ {binds : List (Str × Value)} {m : Str -> Option Value}, (∀ v, (x, v) ∉ binds) -> bindC kindOf binds m x = m x
 | [], _, _ => rfl
 | (n, v) :: r, m, h => by
  unfold bindC
  rw [bindC_out fun w hw => h w (List.mem_cons_of_mem _ hw)]
  split
  ·rfl
  ·have : x ≠ n := by rintro rfl; exact h v List.mem_cons_self
   simp [this]
theorem bindL_get {kindOf : Str -> Option NameKind} {x : Str} {v : Value} : ∀ {P : List Str} {vs : List Value} {i : Nat} {m : Str -> Option Value}, P.Nodup -> P[i]? = some x -> vs[i]? = some v -> kindOf x = some .local ->
  bindL kindOf (P.zip vs) m x = some v
 | [], _, _, _, _, h, _, _ => by simp at h
 | _ :: _, [], _, _, _, _, h, _ => by simp at h
 | p :: P, w :: vs, 0, m, nd, h1, h2, hk => by
  simp at h1 h2; subst h1; subst h2
  show bindL kindOf ((p, w) :: P.zip vs) m p = _
  unfold bindL
  rw [bindL_out fun v hv => (List.nodup_cons.mp nd).1 (List.of_mem_zip hv).1, if_pos hk]
  simp
 | p :: P, w :: vs, i + 1, m, nd, h1, h2, hk => by
  show bindL kindOf ((p, w) :: P.zip vs) m x = _
  unfold bindL
  exact bindL_get (i := i) (List.nodup_cons.mp nd).2 (by simpa using h1) (by simpa using h2) hk
theorem bindC_get {kindOf : Str -> Option NameKind} {x : Str} {v : Value} : ∀ {P : List Str} {vs : List Value} {i : Nat} {m : Str -> Option Value}, P.Nodup -> P[i]? = some x -> vs[i]? = some v -> kindOf x ≠ some .local ->
  bindC kindOf (P.zip vs) m x = some v
 | [], _, _, _, _, h, _, _ => by simp at h
 | _ :: _, [], _, _, _, _, h, _ => by simp at h
 | p :: P, w :: vs, 0, m, nd, h1, h2, hk => by
  simp at h1 h2; subst h1; subst h2
  show bindC kindOf ((p, w) :: P.zip vs) m p = _
  unfold bindC
  rw [bindC_out fun v hv => (List.nodup_cons.mp nd).1 (List.of_mem_zip hv).1, if_neg hk]
  simp
 | p :: P, w :: vs, i + 1, m, nd, h1, h2, hk => by
  show bindC kindOf ((p, w) :: P.zip vs) m x = _
  unfold bindC
  exact bindC_get (i := i) (List.nodup_cons.mp nd).2 (by simpa using h1) (by simpa using h2) hk
noncomputable def start (N : List Str) (vs : List V) : St := vs.map some ++ List.replicate (N.length - vs.length) none
noncomputable def cxOf (CX : CXT) (P : Program) (w : World) (K : PySem.W.Frag) (mg : Str -> Option Value) (base : Heap) (N : List Str) (qual : Str) (scope : Scope) (f : Addr) (cd : Value) (A : Around) (outer : List Env) (s : Shared) (H : Hp) (E : XK) : Cx where
 prog := P
 w := w
 K := K
 mg := mg
 base := base
 A := A.deeper (envOfC qual scope s.heap.objs.size f cd)
 N := N
 s₀ := s
 H₀ := H
 env := envOfC qual scope s.heap.objs.size f cd
 outer := outer
 stack := envOfC qual scope s.heap.objs.size f cd :: outer
 ex := []
 calm := true
 fn := fun _ => true
 pn := []
 xe := fun e s' => wpAny (model P w) (A.deeper (envOfC qual scope s.heap.objs.size f cd)) (leaving (envOfC qual scope s.heap.objs.size f cd) e) (fun _ s'' => CX outer H s E e s'') (fun e' s'' => CX outer H s E e' s'') s'
theorem cell_has {sc : Scope} {n : Nat} {x : Str} (h : sc.names.lookup x = some .cell) : ∃ c, (cellsFrom n sc.names []).lookup x = some c := by
 have q := PySem.W.cellsFrom_some sc.names n [] (.inl h)
 exact Option.isSome_iff_exists.mp q
theorem inv_start {CX : CXT} {P : Program} {w : World} {K : PySem.W.Frag} {mg : Str -> Option Value} {base : Heap} {N ps : List Str} {qual : Str} {scope : Scope} {f : Addr} {cd : Value} {A : Around} {outer : List Env} {s s1 : Shared} {H : Hp} {E : XK} {us : List Value} {vs : List V}
  (S : FnScope N ps scope) (hd : A.handled = none) (e0 : Env0 P w K mg base A outer s H) (hl : vs.length = ps.length) (r : Vals vs us)
  (x : InCallC s s.heap.objs.size (bindL (envOfC qual scope s.heap.objs.size f cd).kindOf (ps.zip us) fun _ => none) (cellsFrom (s.heap.objs.size + 1) scope.names []) (bindC (envOfC qual scope s.heap.objs.size f cd).kindOf (ps.zip us) fun _ => none) s1) :
  Inv (cxOf CX P w K mg base N qual scope f cd A outer s H E) [] (start N vs) H s1 := by
 have hpl : ps.length <= N.length := by have := congrArg List.length S.pre; rw [List.length_take] at this; omega
 obtain ⟨h1, tk, rfl, hk⟩ := x.done
 have noA : ∀ b : Addr, b ∉ (cxOf CX P w K mg base N qual scope f cd A outer s H E).ex := fun b z => absurd (show b ∈ ([] : List Addr) from z) (by simp)
 refine ⟨⟨e0.mod, S.kind, rfl, rfl, Nat.le_refl _, fun y z c h1 h2 => ?_, fun y hy => ?_, fun y c _ h => ?_, fun _ => hd, Around.frames_deeper e0.frames, .inr ⟨rfl, rfl⟩, fun b z => absurd z (noA b), e0.bs, e0.bsz, fun b _ _ => noA b, fun b z => absurd z (noA b), e0.funs, e0.frf⟩,
  rfl, e0.bare, Un.kept hk, ⟨_, x.toInCall.ns, fun i y v h1 h2 h3 => ?_⟩, fun y c h => ⟨_, x.cell y c h⟩, e0.hok.fresh (Nat.le_refl _), fun y c h => ?_, fun p hp => absurd (show p ∈ ([] : List (Addr × Obj)) from hp) (by simp), e0.hok.kept hk, ?_⟩
 ·exact name_of_addr x.apart (PySem.mem_of_lookup h1) (PySem.mem_of_lookup h2)
 ·have hy : scope.names.lookup y = some .cell \/ scope.names.lookup y = some .free := hy
  rcases hy with hy | hy
  ·exact cell_has hy
  ·exact absurd rfl (S.nofree _ (PySem.mem_of_lookup hy))
 ·exact Nat.le_of_lt (x.above y c (PySem.mem_of_lookup h))
 ·have hi : i < vs.length := by
   unfold start at h2
   by_cases hi : i < vs.length
   ·exact hi
   ·rw [List.getElem?_append_right (by simpa using hi)] at h2
    rw [List.getElem?_replicate] at h2
    split at h2 <;> cases h2
  have ha : vs[i]? = some v := by
   unfold start at h2
   rw [List.getElem?_append_left (by simpa using hi), List.getElem?_map] at h2
   cases e : vs[i]? with
   | none => rw [e] at h2; cases h2
   | some a => rw [e] at h2; cases h2; rfl
  obtain ⟨u, hu, rv⟩ := r.get ha
  have hp : ps[i]? = some y := by
   rw [<- S.pre, List.getElem?_take_of_lt (by omega)]; exact h1
  have ndP : ps.Nodup := by rw [<- S.pre]; exact S.nd.sublist (List.take_sublist _ _)
  refine ⟨u, rv, ?_⟩
  rcases S.par y (List.mem_of_getElem? hp) with k | k
  ·exact .inl ⟨k, bindL_get ndP hp hu k⟩
  ·obtain ⟨c, e⟩ := cell_has (n := s.heap.objs.size + 1) k
   refine .inr ⟨.inl k, c, e, ?_⟩
   have q := x.cell y c e
   rw [bindC_get ndP hp hu (by show scope.names.lookup y ≠ _; rw [k]; decide)] at q
   exact q
 ·exact e0.hok.fresh (Nat.le_of_lt (x.above y c (PySem.mem_of_lookup h)))
 ·unfold start
  show _ = N.length
  rw [List.length_append, List.length_map, List.length_replicate]
  omega
theorem fn_of {CX : CXT} {P : Program} {w : World} {K : PySem.W.Frag} {mg : Str -> Option Value} {base : Heap} {k : Nat} {f : Addr} {name qual : Str} {params : Arguments} {body : List Stmt} {scope : Scope} {dV kV doc pm cdv ct oc : Value} {an od : Option Addr}
  {osl : Array (Option Value)} {N ps : List Str} {sp : Sp} (lk : K.lookup f = some ⟨oc, od, .func (PySem.W.fnOf name qual params body scope dV kV doc pm an cdv ct), osl⟩) (hcd : PySem.W.codeIn K cdv qual = true) (S : FnScope N ps scope)
  (len : ∀ vs H Q E, sp vs H Q E -> vs.length = ps.length)
  (hbody : ∀ (A : Around) (outer : List Env) (s : Shared) (H : Hp) (vs : List V) (Q : VK) (E : XK), Room k (A.deeper (envOfC qual scope s.heap.objs.size f cdv)) -> sp vs H Q E ->
   ∃ t, PSs (cxOf CX P w K mg base N qual scope f cdv A outer s H E) body t /\ t { nx := fun _ H' => Q .non H', rt := Q } (start N vs) H) :
  FnOk P w K mg base CX (k + 1) f (PySem.W.fnOf name qual params body scope dV kV doc pm an cdv ct) ps sp := by
 refine ⟨len, fun A outer s H args us vs Q E hr e0 hb r hsp => ?_⟩
 have hl := len _ _ _ _ hsp
 have KX : K.In s.heap := e0.mod.kin.keeps fun b o e => (e0.bs b o e).1
 have lim : s.heap.NoLimit := e0.mod.nolimit.keeps fun b o e => (e0.bs b o e).1
 have hkind : ∀ y ∈ ps.zip us, scope.names.lookup y.1 = some .local \/ (scope.names.lookup y.1 = some .cell /\ ((cellsFrom (s.heap.objs.size + 1) scope.names []).lookup y.1).isSome = true) := fun ⟨n, v⟩ hy => by
  rcases S.par n (List.of_mem_zip hy).1 with q | q
  ·exact .inl q
  ·exact .inr ⟨q, PySem.W.cellsFrom_some _ _ _ (.inl q)⟩
 refine codeAny_call_function hr.depth (KX _ _ lk) rfl S.co S.gen rfl (PySem.W.codeRec_of KX hcd) (hb _ _ _ _ ?_)
 refine wpAny_newFunctionEnv_cells S.kind hkind fun env he s1 x => ?_
 subst he
 refine ⟨lim.keeps x.toInCall.keep, codeAny_func ?_⟩
 obtain ⟨t, ht, hq⟩ := hbody A outer s H vs Q E (hr.deeper _) hsp
 have I : Inv (cxOf CX P w K mg base N qual scope f cdv A outer s H E) [] (start N vs) H s1 := inv_start S hr.hd e0 hl r x
 refine wpAny_mono (ht [] s1 (start N vs) H _ I hq) (fun fl s' hs => ?_) fun e s' hs => hs
 have fin : ∀ {σ' : St} {H' : Hp} {v : V} {u : Value}, Inv (cxOf CX P w K mg base N qual scope f cdv A outer s H E) [] σ' H' s' -> RelV v u -> Q v H' -> CE outer P w H s Q u s' :=
  fun {σ' H' v u} J rv q => ⟨v, H', J.os, J.bare, J.base, J.hok, rv, q⟩
 cases fl with
 | ret u =>
  obtain ⟨v, σ', H', J, rv, q⟩ := hs
  exact fin J rv q
 | next =>
  obtain ⟨σ', H', J, q⟩ := hs
  exact fin (v := V.non) (u := Value.none) J rfl q
 | brk =>
  obtain ⟨_, _, _, q⟩ := hs
  exact False.elim q
 | cont =>
  obtain ⟨_, _, _, q⟩ := hs
  exact False.elim q
end L2
namespace L2
open PySem PySem.Spec PyProof.Rows
section
variable {X : Cx} {x : Str} {p pos : Pos} {e : Expr} {es : List Expr} {t : TA} {id T : String} {r : List V -> Hp -> VK -> Prop}
def tCB (r : List V -> Hp -> VK -> Prop) (t : TA) : TE := fun σ H Q => t σ H fun vs H1 => r vs H1 Q
theorem pe_callB (hc : CallR X (.builtin id) r) (hg : Gl X x) (hm : X.mg x = none) (hv : bootBuiltins x = some (.builtin id)) (ha : PA X (e :: es) t) (hn : x ≠ "__name__" := by decide) (hdb : (x == ("__debug__" : Str)) = false := by decide)
  (he : starEach (e :: es) X.env = (false, eval e X.env) :: starEach es X.env := by rfl) (hpl : (backTo pos (starEach es X.env)).any (·.1) = false := by rfl) : PE X (.Call (.Name x p) (e :: es) [] pos) (tCB r t) := by
 intro pins s σ H Q I h
 refine wpAny_Call_Name_kw (ld_blt I hg hm hv ?_ hn hdb)
 exact PyProof.Rows.callWith_builtin1 (thn (ha pos pins s σ H _ I h) fun us s1 ⟨vs, H1, I1, r1, q1⟩ => hc pins s1 σ H1 vs us Q I1 r1 q1) he hpl
theorem pe_callTy (hc : CallR X (.type T) r) (hg : Gl X x) (hm : X.mg x = none) (hv : bootBuiltins x = some (.type T)) (ha : PA X (e :: es) t) (hn : x ≠ "__name__" := by decide) (hdb : (x == ("__debug__" : Str)) = false := by decide)
  (he : starEach (e :: es) X.env = (false, eval e X.env) :: starEach es X.env := by rfl) (hpl : (backTo pos (starEach es X.env)).any (·.1) = false := by rfl) : PE X (.Call (.Name x p) (e :: es) [] pos) (tCB r t) := by
 intro pins s σ H Q I h
 refine wpAny_Call_Name_kw (ld_blt I hg hm hv ?_ hn hdb)
 exact PyProof.Rows.callWith_type1 (thn (ha pos pins s σ H _ I h) fun us s1 ⟨vs, H1, I1, r1, q1⟩ => hc pins s1 σ H1 vs us Q I1 r1 q1) he hpl
end
end L2
namespace HT
open PySem PyProof.Rows
noncomputable def lexLt : List Int -> List Int -> Bool
 | [], [] => false
 | [], _ :: _ => true
 | _ :: _, [] => false
 | x :: xs, y :: ys => if x = y then lexLt xs ys else decide (x < y)
theorem lexLt_cons (x y : Int) (xs ys : List Int) : lexLt (x :: xs) (y :: ys) = if x = y then lexLt xs ys else decide (x < y) := rfl
theorem lexLt_nil_nil : lexLt [] [] = false := rfl
theorem lexLt_nil_cons (y : Int) (ys : List Int) : lexLt [] (y :: ys) = true := rfl
theorem lexLt_cons_nil (x : Int) (xs : List Int) : lexLt (x :: xs) [] = false := rfl
theorem eqAt_int (A : Around) (s : Shared) (a : Int) (t : Tok) (c : Int) (u : Tok) : ∃ e, SeqAt.EqAt A s (.int a t) (.int c u) e /\ (e = true ↔ a = c) :=
 ⟨(a == c), SeqAt.EqAt.int_int a t c u, by simp⟩
theorem rcLt_int (A : Around) (s : Shared) (a : Int) (t : Tok) (c : Int) (u : Tok) (prog : Program) (w : World) (E : Value -> Shared -> Prop) (Q : Value -> Shared -> Prop) (h : Q (.bool (decide (a < c))) s) :
  wpAny (model prog w) A (richCompare .Lt (.int a t) (.int c u)) Q E s :=
 (PyProof.Rows.lt_int h : wpAny (model prog w) A (compareOp .Lt (.int a t) (.int c u)) Q E s)
section
open PySem.SeqAt
open PySem.AutoSeq1 (wpAny_loadPart')
open PySem.MeetsSeq PySem.MeetsSeq2 PySem.MeetsSeq3
theorem tuple_lt_ints (l b : Addr) (items items2 : Array Value) (n n2 : Nat) (dd dd2 : Option Addr) (sl sl2 : Array (Option Value)) (ns ms : List Int) (hi : IntsAre items.toList ns) (hj : IntsAre items2.toList ms) :
  Meets (Builtin.«tuple.__lt__» ⟨[.ref l, .ref b], []⟩)
   (fun _ R s => s.heap.get? l = some { cls := .type "tuple", dict := dd, data := .seq items n, slots := sl } /\ s.heap.get? b = some { cls := .type "tuple", dict := dd2, data := .seq items2 n2, slots := sl2 } /\
    R (.ok (.ret (.bool (lexLt ns ms)))) s) :=
 .of_wp fun prog w A R s h => by
  obtain ⟨hp, g, d, tk, os⟩ := s; obtain ⟨hl, hb, h⟩ := h
  have f2 := AutoSeq1.sub_tuple_tuple
  have z1 : items.size = ns.length := by rw [<- hi.length]; simp
  have z2 : items2.size = ms.length := by rw [<- hj.length]; simp
  wp_walk using wpAny_loadPart' hl, wpAny_loadPart' hb, wpAny_forIn_list _ (fun rest b s' => b.1 = none /\ s' = ⟨hp, g, d, tk, os⟩ /\ ∃ (vs ws : List Value) (ns' ms' : List Int), rest = vs.zip ws /\
   IntsAre vs ns' /\ IntsAre ws ms' /\ ns'.length + items2.size = ms'.length + items.size /\ R (.ok (.ret (.bool (lexLt ns' ms')))) ⟨hp, g, d, tk, os⟩) _
  case turn =>
   rintro ⟨y, x⟩ rest b s' ⟨hb', rfl, vs, ws, ns', ms', hz, hvi, hwi, hlen, hR⟩
   cases hvi with
   | nil => rw [List.zip_nil_left] at hz; cases hz
   | cons a t hvi' =>
    cases hwi with
    | nil => rw [List.zip_nil_right] at hz; cases hz
    | cons c u hwi' =>
     rw [List.zip_cons_cons] at hz
     injection hz with hyx hrest
     injection hyx with hy hx
     subst hy hx
     rw [lexLt_cons] at hR
     simp only [List.length_cons] at hlen
     obtain ⟨e, he, hiff⟩ := eqAt_int A.in1 ⟨hp, g, d, tk, os⟩ a t c u
     refine wpAny_bind (he prog w _ _ ?_)
     cases e with
     | true =>
      rw [if_pos (hiff.mp rfl)] at hR
      wp_walk
      exact ⟨rfl, rfl, _, _, _, _, hrest, hvi', hwi', by omega, hR⟩
     | false =>
      rw [if_neg (fun q => absurd (hiff.mpr q) Bool.false_ne_true)] at hR
      have hri := rcLt_int A.in1 ⟨hp, g, d, tk, os⟩ a t c u prog w
      wp_walk using hri
      exact ⟨_, rfl, by simpa using hR⟩
  case fin =>
   rintro ⟨b1, b2⟩ s' ⟨hb', rfl, vs, ws, ns', ms', hz, hvi, hwi, hlen, hR⟩
   simp only at hb'
   subst hb'
   have hv : lexLt ns' ms' = decide (items.size < items2.size) := by
    cases hvi with
    | nil =>
     cases hwi with
     | nil =>
      simp only [List.length_nil] at hlen
      rw [lexLt_nil_nil]
      exact (decide_eq_false (by omega)).symm
     | cons c u hw =>
      simp only [List.length_nil, List.length_cons] at hlen
      rw [lexLt_nil_cons]
      exact (decide_eq_true (by omega)).symm
    | cons a t hv =>
     cases hwi with
     | nil =>
      simp only [List.length_nil, List.length_cons] at hlen
      rw [lexLt_cons_nil]
      exact (decide_eq_false (by omega)).symm
     | cons c u hw =>
      rw [List.zip_cons_cons] at hz
      cases hz
   rw [hv] at hR
   wp_walk
   exact ⟨_, rfl, by simpa [Builtin.Tuple.tupleCompareSizes] using hR⟩
  case h =>
   exact ⟨rfl, rfl, items.toList, items2.toList, ns, ms, rfl, hi, hj, by omega, h⟩
end
section
variable {prog : Program} {w : World} {A : Around} {E : Value -> Shared -> Prop} {s : Shared}
theorem lt_tupInts {l b : Addr} {items items2 : Array Value} {ns ms : List Int} {Q : Value -> Shared -> Prop} (hl : IsTup s.heap l items) (hb : IsTup s.heap b items2) (hi : IntsAre items.toList ns) (hj : IntsAre items2.toList ms)
  (hu : A.units < cLine) (h : Q (.bool (lexLt ns ms)) s) : wpAny (model prog w) A (compareOp .Lt (.ref l) (.ref b)) Q E s := by
 obtain ⟨⟨cls, dd, data, sl⟩, ho, hc, n, hd⟩ := id hl
 obtain ⟨⟨cls2, dd2, data2, sl2⟩, ho2, hc2, n2, hd2⟩ := id hb
 simp only at hc hd hc2 hd2
 subst hc hd hc2 hd2
 exact richCompare_meets_room (op := .Lt) ⟨_, ho, rfl⟩ ⟨_, ho2, rfl⟩ PySem.F.slot_tuple_lt PySem.F.entry_tuple_lt (PySem.F.args_tuple_lt_2 _ _) (tuple_lt_ints l b items items2 n n2 dd dd2 sl sl2 ns ms hi hj)
  ⟨ho, ho2, show Value.bool (lexLt ns ms) ≠ Value.notImplemented /\ Q (.bool (lexLt ns ms)) s from ⟨(fun x => nomatch x), h⟩⟩ hu
theorem cat_tup {t b : Addr} {vs ws : List Value} {Q : Value -> Shared -> Prop} (ht : IsTup s.heap t vs.toArray) (hb : IsTup s.heap b ws.toArray) (hv : vs ≠ [])
  (h1 : ws = [] -> Q (.ref t) s) (h2 : ws ≠ [] -> Q (.ref s.heap.objs.size) { s with heap := s.heap.push { cls := .type "tuple", data := .seq (vs ++ ws).toArray } })
  (hsz : vs.length + ws.length <= sizeLine) : wpAny (model prog w) A (binaryOp .Add (.ref t) (.ref b)) Q E s := by
 obtain ⟨⟨cls, dd, data, sl⟩, ho, hc, n, hd⟩ := id ht
 obtain ⟨⟨cls2, dd2, data2, sl2⟩, ho2, hc2, n2, hd2⟩ := id hb
 simp only at hc hd hc2 hd2
 subst hc hd hc2 hd2
 have e : vs.toArray ++ ws.toArray = (vs ++ ws).toArray := by simp
 by_cases hw : ws = []
 ·exact concat_meets ⟨_, ho, rfl⟩ ⟨_, ho2, rfl⟩ noFill_tuple_add seq_tuple_add PySem.F.slot_tuple_add PySem.F.entry_tuple_add (PySem.F.args_tuple_add_2 _ _)
   (tuple_addW1 t b vs.toArray ws.toArray n n2 dd dd2 sl sl2 (by simpa using hv) (by simp [hw])) ⟨ho, ho2, h1 hw⟩
 ·refine concat_meets ⟨_, ho, rfl⟩ ⟨_, ho2, rfl⟩ noFill_tuple_add seq_tuple_add PySem.F.slot_tuple_add PySem.F.entry_tuple_add (PySem.F.args_tuple_add_2 _ _)
   (tuple_addW2 t b vs.toArray ws.toArray n n2 dd dd2 sl sl2 (by simpa using hv) (by simpa using hw) (by rw [List.size_toArray, List.size_toArray]; exact hsz)) ⟨ho, ho2, ?_⟩
  rw [e]
  exact h2 hw
end
end HT
namespace L2
open PySem PySem.Spec PyProof.Rows
theorem intsAre_of {ns : List Int} : ∀ {us : List Value}, Vals (ns.map V.int) us -> IntsAre us ns := by
 induction ns with
 | nil => intro us r; rw [List.map_nil] at r; cases r; exact .nil
 | cons n ns ih =>
  intro us r
  rw [List.map_cons] at r
  cases r with
  | cons r1 r2 =>
   obtain ⟨t, e⟩ := r1
   subst e
   exact .cons n t (ih r2)
section
variable {X : Cx} {e : Expr} {te : TE} {lo hi : Option Expr} {tl th : TO} {pos p2 : Pos}
def rLtT (K : PySem.W.Frag) : R2 := fun x y H Q => ∃ a b ns ms, x = .ref a /\ y = .ref b /\ SqT K H a (ns.map V.int) /\ SqT K H b (ms.map V.int) /\ Q (.bl (HT.lexLt ns ms)) H
theorem op_ltT (hu : X.A.units < cLine) : OpR X (compareOp .Lt) (rLtT X.K) := by
 intro pins s σ H x y v u Q I rx ry h
 obtain ⟨a, b, ns, ms, rfl, rfl, ha, hb, q⟩ := h
 cases rx
 cases ry
 obtain ⟨its, r1, p1, _⟩ := I.tuple ha
 obtain ⟨its2, r2, p2, _⟩ := I.tuple hb
 have i1 : IntsAre its.toArray.toList ns := intsAre_of r1
 have i2 : IntsAre its2.toArray.toList ms := intsAre_of r2
 exact HT.lt_tupInts p1 p2 i1 i2 hu ⟨.bl (HT.lexLt ns ms), H, I, rfl, q⟩
def rCatT (K : PySem.W.Frag) : R2 := fun x y H Q => ∃ a b xs ys, x = .ref a /\ y = .ref b /\ SqT K H a xs /\ SqT K H b ys /\ xs ≠ [] /\ xs.length + ys.length <= sizeLine /\
 (ys = [] -> Q (.ref a) H) /\ (ys ≠ [] -> ∀ p, H p = none -> Q (.ref p) (upd H p (.tup (xs ++ ys))))
theorem Vals.nil_iff {xs : List V} {us : List Value} (r : Vals xs us) : us = [] ↔ xs = [] := by
 cases r with
 | nil => simp
 | cons _ _ => simp
theorem op_catT : OpR X (binaryOp .Add) (rCatT X.K) := by
 intro pins s σ H x y v u Q I rx ry h
 obtain ⟨a, b, xs, ys, rfl, rfl, ha, hb, hx, hz, q1, q2⟩ := h
 cases rx
 cases ry
 obtain ⟨its, r1, p1, _⟩ := I.tuple ha
 obtain ⟨its2, r2, p2, _⟩ := I.tuple hb
 refine HT.cat_tup p1 p2 (fun z => hx (r1.nil_iff.mp z)) (fun z => ⟨.ref a, H, I, rfl, q1 (r2.nil_iff.mp z)⟩) (fun z => ?_) (by rw [<- r1.length, <- r2.length]; exact hz)
 refine ⟨.ref s.heap.objs.size, _, I.laid (t' := s.toks) (o := .tup (xs ++ ys)) (fun b ob q => Heap.get?_push_of_some _ q) (Nat.le_refl _) ?_, rfl, q2 (fun w => z (r2.nil_iff.mpr w)) _ (I.hok.fresh (Nat.le_refl _))⟩
 exact ⟨by rw [List.length_append]; exact hz, _, r1.append r2, IsTup.new _ _⟩
end
end L2
namespace L2
open PySem PySem.Spec PyProof.Rows
noncomputable def ixN (n : Nat) (i : Int) : Option Nat := if 0 <= i then (if i < n then some i.toNat else none) else if -(n : Int) <= i then some (i + n).toNat else none
noncomputable def atI {α : Type} (xs : List α) (i : Int) : Option α := (ixN xs.length i).bind fun j => xs[j]?
theorem ixN_seq {n : Nat} {i : Int} {j : Nat} (h : ixN n i = some j) : seqIndex? i n = some j /\ j < n /\ -(n : Int) <= i /\ i < n := by
 unfold ixN at h
 by_cases h0 : 0 <= i
 ·rw [if_pos h0] at h
  by_cases h1 : i < n
  ·rw [if_pos h1] at h
   have e : i.toNat = j := Option.some.inj h
   exact ⟨by rw [seqIndex_of h0 h1, e], by omega, by omega, h1⟩
  ·rw [if_neg h1] at h; cases h
 ·rw [if_neg h0] at h
  by_cases h1 : -(n : Int) <= i
  ·rw [if_pos h1] at h
   have e : (i + n).toNat = j := Option.some.inj h
   exact ⟨by rw [seqIndex_neg (by omega) h1, e], by omega, h1, by omega⟩
  ·rw [if_neg h1] at h; cases h
theorem atI_get {α : Type} {xs : List α} {i : Int} {v : α} (h : atI xs i = some v) : ∃ j, seqIndex? i xs.length = some j /\ xs[j]? = some v /\ j < xs.length /\ -(xs.length : Int) <= i /\ i < xs.length := by
 unfold atI at h
 cases e : ixN xs.length i with
 | none => rw [e] at h; cases h
 | some j =>
  rw [e] at h
  obtain ⟨h1, h2, h3, h4⟩ := ixN_seq e
  exact ⟨j, h1, h, h2, h3, h4⟩
def PlainIx (b : Expr) : Prop := ∀ o i, subscripted b false o i = operate [o, i] (getItem o i)
def IxR (X : Cx) (r : R2) : Prop :=
 ∀ (value slice : Expr) (pins : List (Addr × Obj)) (s : Shared) (σ : St) (H : Hp) (x y : V) (v u : Value) (Q : VK), Inv X pins σ H s -> RelV x v -> RelV y u -> r x y H Q ->
  subscripted slice false v u = operate [v, u] (getItem v u) -> wpAny (model X.prog X.w) X.A (subscriptTail value slice v u) (EP X pins σ Q) X.xe s
def MtR (X : Cx) (id : String) (r : V -> List V -> Hp -> VK -> Prop) : Prop :=
 ∀ (pins : List (Addr × Obj)) (s : Shared) (σ : St) (H : Hp) (x : V) (xs : List V) (v : Value) (us : List Value) (Q : VK), Inv X pins σ H s -> RelV x v -> Vals xs us -> r x xs H Q ->
  wpAny (model X.prog X.w) X.A (call (.builtin id) (v :: us)) (EP X pins σ Q) X.xe s
section
variable {X : Cx} {a b : Expr} {ta tb : TE} {pos : Pos}
theorem IxR.or {r r' : R2} (h : IxR X r) (h' : IxR X r') : IxR X (fun x y H Q => r x y H Q \/ r' x y H Q) := by
 intro value slice pins s σ H x y v u Q I rx ry q hs
 rcases q with q | q
 ·exact h value slice pins s σ H x y v u Q I rx ry q hs
 ·exact h' value slice pins s σ H x y v u Q I rx ry q hs
theorem pe_ix {r : R2} (hr : IxR X r) (ha : PE X a ta) (hb : PE X b tb) (hs : PlainIx b) : PE X (.Subscript a b pos) (tOp r ta tb) := by
 intro pins s σ H Q I h
 exact Subscript_ (binT ha hb I h fun v u s2 x y H2 I2 rx ry q => hr a b pins s2 σ H2 x y v u Q I2 rx ry q (hs _ _))
def rIxL (K : PySem.W.Frag) : R2 := fun x y H Q => ∃ p xs i v, x = .ref p /\ y = .int i /\ SqL K H p xs /\ atI xs i = some v /\ Q v H
def rIxT (K : PySem.W.Frag) : R2 := fun x y H Q => ∃ p xs i v, x = .ref p /\ y = .int i /\ SqT K H p xs /\ atI xs i = some v /\ Q v H
def rIxS : R2 := fun x y H Q => ∃ z i c, x = .str z /\ y = .int i /\ z.length <= sizeLine /\ atI z.cps.toList i = some c /\ Q (.str ⟨#[c]⟩) H
theorem ix_list : IxR X (rIxL X.K) := by
 intro value slice pins s σ H x y v u Q I rx ry h hs
 obtain ⟨p, xs, i, z, rfl, rfl, hq, he, q⟩ := h
 cases rx
 obtain ⟨t, rfl⟩ := ry
 obtain ⟨its, r, pl, hz⟩ := I.list hq
 obtain ⟨j, h1, h2, h3, h4, h5⟩ := atI_get he
 obtain ⟨w, ew, rw'⟩ := r.get h2
 have hl := r.length
 have hn := line63
 have fin : EP X pins σ Q w s := ⟨z, H, I, rw', q⟩
 by_cases h0 : 0 <= i
 ·have hj : i.toNat = j := by
   rw [seqIndex_of h0 h5] at h1
   exact Option.some.inj h1
  exact item_listR pl.isList h0 (by omega) (by rw [hj]; simpa using ew) fin hs
 ·have hj : (i + (its.toArray.size : Int)).toNat = j := by
   rw [seqIndex_neg (by omega) h4] at h1
   rw [List.size_toArray, <- hl]
   exact Option.some.inj h1
  exact subscriptTail_builtinR (x := w) pl.isList.typeIs slot_list_getitem.lookup
   (wpAny_getItem_list_neg (Q := fun r s' => r = w /\ EP X pins σ Q r s') pl.isList (by omega) (by rw [List.size_toArray] <;> omega) (by omega) (by rw [hj]; simpa using ew) ⟨rfl, fin⟩) hs
theorem ix_tup : IxR X (rIxT X.K) := by
 intro value slice pins s σ H x y v u Q I rx ry h hs
 obtain ⟨p, xs, i, z, rfl, rfl, hq, he, q⟩ := h
 cases rx
 obtain ⟨t, rfl⟩ := ry
 obtain ⟨its, r, pl, hz⟩ := I.tuple hq
 obtain ⟨j, h1, h2, h3, h4, h5⟩ := atI_get he
 obtain ⟨w, ew, rw'⟩ := r.get h2
 have hl := r.length
 have hn := line63
 have fin : EP X pins σ Q w s := ⟨z, H, I, rw', q⟩
 exact subscriptTail_builtinR (x := w) pl.typeIs slot_tuple_getitem.lookup
  (getItem_tuple (j := j) (Q := fun r s' => r = w /\ EP X pins σ Q r s') pl (by omega) (by omega) (by rw [List.size_toArray, <- hl]; exact h1) (by simpa using ew) ⟨rfl, fin⟩) hs
theorem ix_str : IxR X rIxS := by
 intro value slice pins s σ H x y v u Q I rx ry h hs
 obtain ⟨z, i, c, rfl, rfl, hz, he, q⟩ := h
 obtain ⟨t, rfl⟩ := rx
 obtain ⟨t', rfl⟩ := ry
 obtain ⟨j, h1, h2, h3, h4, h5⟩ := atI_get he
 have hl : z.cps.toList.length = z.length := by simp [Str.length]
 rw [hl] at h1 h4 h5
 have hn := line63
 exact tail_any (typeIs_str s z t) slot_str_getitem.lookup (getItem_str (c := c) (by
  have e1 : decide (i < -(2 ^ 63 : Int)) = false := decide_eq_false (by omega)
  have e2 : decide (i ≥ 2 ^ 63) = false := decide_eq_false (by omega)
  rw [e1, e2, Bool.or_false]) (by rw [h1]; simpa using h2) ⟨.str ⟨#[c]⟩, H, I.tok _, ⟨_, rfl⟩, q⟩) hs
def rIx (K : PySem.W.Frag) : R2 := fun x y H Q => rIxL K x y H Q \/ rIxT K x y H Q \/ rIxS x y H Q
theorem ix_seq : IxR X (rIx X.K) := ix_list.or (ix_tup.or ix_str)
theorem call_len_seq : CallR X (.builtin "len") (fun xs H Q => ∃ p ys, xs = [.ref p] /\ (SqL X.K H p ys \/ SqT X.K H p ys) /\ Q (.int ys.length) H) := by
 intro pins s σ H xs us Q I r h
 obtain ⟨p, ys, rfl, hq, q⟩ := h
 obtain ⟨u, rfl, rx⟩ := vals1 r
 cases rx
 have hn := line63
 rcases hq with hq | hq
 ·obtain ⟨its, r', pl, hz⟩ := I.list hq
  have hlen := r'.length
  exact Calls.call_len_list pl.isList (by simp only [List.size_toArray] <;> omega) ⟨.int ys.length, H, I.tok _, ⟨s.toks + 1, by rw [List.size_toArray, hlen]⟩, q⟩
 ·obtain ⟨its, r', pl, hz⟩ := I.tuple hq
  have hlen := r'.length
  exact len_tuple pl (by simp only [List.size_toArray] <;> omega) ⟨.int ys.length, H, I.tok _, ⟨s.toks + 1, by rw [List.size_toArray, hlen]⟩, q⟩
theorem call_len_str : CallR X (.builtin "len") (fun xs H Q => ∃ z, xs = [.str z] /\ z.length <= sizeLine /\ Q (.int z.length) H) := by
 intro pins s σ H xs us Q I r h
 obtain ⟨z, rfl, hz, q⟩ := h
 obtain ⟨u, rfl, t, rfl⟩ := vals1 r
 have hn := line63
 exact len_str (by omega) ⟨.int z.length, H, I.tok _, ⟨_, rfl⟩, q⟩
theorem CallR.or {f : Value} {r r' : List V -> Hp -> VK -> Prop} (h : CallR X f r) (h' : CallR X f r') : CallR X f (fun xs H Q => r xs H Q \/ r' xs H Q) := by
 intro pins s σ H xs us Q I rs q
 rcases q with q | q
 ·exact h pins s σ H xs us Q I rs q
 ·exact h' pins s σ H xs us Q I rs q
theorem call_list_of : CallR X (.type "list") (fun xs H Q => ∃ p ys, xs = [.ref p] /\ (SqL X.K H p ys \/ SqT X.K H p ys) /\ ∀ l, H l = none -> Q (.ref l) (upd H l (.lst ys))) := by
 intro pins s σ H xs us Q I r h
 obtain ⟨p, ys, rfl, hq, q⟩ := h
 obtain ⟨u, rfl, rx⟩ := vals1 r
 cases rx
 have fin : ∀ (its : List Value), Vals ys its -> ys.length <= sizeLine -> ∀ (h' : Heap) (c' : Nat), (∀ b o', s.heap.get? b = some o' -> h'.get? b = some o') ->
   h'.get? s.heap.objs.size = some { cls := .type "list", dict := none, data := .seq its.toArray c', slots := #[] } -> EP X pins σ Q (.ref s.heap.objs.size) { s with heap := h' } := fun its r' hz h' c' kp e =>
  ⟨.ref s.heap.objs.size, _, I.laid (t' := s.toks) kp (Nat.le_refl _) (show ObjOk X.prog X.w _ h' _ (.lst ys) from ⟨hz, its, c', r', e⟩), rfl, q _ (I.hok.fresh (Nat.le_refl _))⟩
 rcases hq with hq | hq
 ·obtain ⟨its, r', pl, hz⟩ := I.list hq
  have hlen := r'.length
  obtain ⟨o, ho, hc, n, hd⟩ := pl.isList
  exact call_list_seq p (.inl rfl) ho hc hd (fun h' c' kp e => fin its r' hz h' c' kp e) (by simp only [List.size_toArray] <;> omega)
 ·obtain ⟨its, r', pl, hz⟩ := I.tuple hq
  have hlen := r'.length
  obtain ⟨o, ho, hc, n, hd⟩ := pl
  exact call_list_seq p (.inr rfl) ho hc hd (fun h' c' kp e => fin its r' hz h' c' kp e) (by simp only [List.size_toArray] <;> omega)
theorem call_tuple_of : CallR X (.type "tuple") (fun xs H Q => ∃ p ys, xs = [.ref p] /\ ((SqL X.K H p ys /\ ∀ l, H l = none -> Q (.ref l) (upd H l (.tup ys))) \/ (SqT X.K H p ys /\ Q (.ref p) H))) := by
 intro pins s σ H xs us Q I r h
 obtain ⟨p, ys, rfl, h⟩ := h
 obtain ⟨u, rfl, rx⟩ := vals1 r
 cases rx
 rcases h with ⟨hq, q⟩ | ⟨hq, q⟩
 ·obtain ⟨its, r', pl, hz⟩ := I.list hq
  have hlen := r'.length
  refine call_tuple_list pl.isList (fun h' kp => ?_) (by simp only [List.size_toArray] <;> omega)
  have I1 : Inv X pins σ H { s with heap := h' } := I.kept (t' := s.toks) kp
  have I2 : Inv X pins σ (upd H h'.objs.size (.tup ys)) { s with heap := h'.push { cls := .type "tuple", data := .seq its.toArray } } :=
   I1.laid (t' := s.toks) (fun b o e => Heap.get?_push_of_some _ e) (Nat.le_refl _) (show ObjOk X.prog X.w _ _ _ (.tup ys) from ⟨hz, its, r', IsTup.new _ _⟩)
  exact ⟨.ref h'.objs.size, _, I2, rfl, q _ (I1.hok.fresh (Nat.le_refl _))⟩
 ·obtain ⟨its, r', pl, hz⟩ := I.tuple hq
  exact call_tuple_same pl ⟨.ref p, H, I, rfl, q⟩
def tyV (K : PySem.W.Frag) (T : String) (x : V) (H : Hp) : Prop := match x with
 | .str _ => T = "str"
 | .int _ => T = "int"
 | .ref p => (T = "list" /\ ∃ xs, SqL K H p xs) \/ (T = "tuple" /\ ∃ o, K.lookup p = some o /\ o.cls = .type "tuple" /\ o.dict = none) \/
   (T = "dict" /\ ((∃ kvs, H p = some (.dK kvs)) \/ ∃ kvs, H p = some (.dT kvs))) \/ (T = "set" /\ ∃ S n, H p = some (.set S n))
 | _ => False
theorem tyV_is {pins : List (Addr × Obj)} {σ : St} {H : Hp} {s : Shared} {T : String} {x : V} {v : Value} (I : Inv X pins σ H s) (r : RelV x v) (ty : tyV X.K T x H) :
  s.TypeIs v T /\ ∀ a, v = .ref a -> ∃ ob, s.heap.get? a = some ob /\ ob.dict = none := by
 cases x with
 | str z =>
  obtain ⟨t, rfl⟩ := r
  cases (show T = "str" from ty)
  exact ⟨typeIs_str s z t, fun _ e => nomatch e⟩
 | int i =>
  obtain ⟨t, rfl⟩ := r
  cases (show T = "int" from ty)
  exact ⟨typeIs_int s i t, fun _ e => nomatch e⟩
 | ref p =>
  cases r
  rcases ty with ⟨rfl, xs, hq⟩ | ⟨rfl, o, hk, hc, hd⟩ | ⟨rfl, hk⟩ | ⟨rfl, S, n, hk⟩
  ·obtain ⟨its, _, pl, _⟩ := I.list hq
   refine ⟨pl.isList.typeIs, fun a e => ?_⟩
   cases e
   obtain ⟨o, n, e, c, hd, _⟩ := pl
   exact ⟨o, e, hd⟩
  ·refine ⟨⟨o, I.kIn p o hk, hc⟩, fun a e => ?_⟩
   cases e
   exact ⟨o, I.kIn _ o hk, hd⟩
  ·have z : ∃ o, s.heap.get? p = some o /\ o.ExactDict := by
    rcases hk with ⟨kvs, hk⟩ | ⟨kvs, hk⟩
    ·obtain ⟨_, _, _, _, o, _, _, e, ex, _⟩ := I.hok p _ hk
     exact ⟨o, e, ex⟩
    ·obtain ⟨_, _, _, _, o, _, _, e, ex, _⟩ := I.hok p _ hk
     exact ⟨o, e, ex⟩
   obtain ⟨o, e, ex⟩ := z
   refine ⟨⟨o, e, ex.1⟩, fun a e2 => ?_⟩
   cases e2
   exact ⟨o, e, ex.2.1⟩
  ·obtain ⟨o, _, _, _, e, ex, _⟩ := I.hok p _ hk
   refine ⟨⟨o, e, ex.1⟩, fun a e2 => ?_⟩
   cases e2
   exact ⟨o, e, ex.2.1⟩
 | _ => exact False.elim ty
def tBM0 (K : PySem.W.Frag) (T : String) (r : V -> List V -> Hp -> VK -> Prop) (to : TE) : TE := fun σ H Q => to σ H fun x H1 => tyV K T x H1 /\ r x [] H1 Q
def tBM (K : PySem.W.Frag) (T : String) (r : V -> List V -> Hp -> VK -> Prop) (to : TE) (t : TA) : TE := fun σ H Q => to σ H fun x H1 => tyV K T x H1 /\ t σ H1 fun xs H2 => r x xs H2 Q
variable {o e : Expr} {es : List Expr} {to : TE} {t : TA} {name : Str} {apos cpos : Pos} {T id : String} {r : V -> List V -> Hp -> VK -> Prop}
theorem pe_bm0 (pa : PlainAttrs T) (slot : Slot T name id) (hty : typeOf (.builtin id) = pure (.type "method_descriptor")) (hm : MtR X id r) (ho : PE X o to)
  (hbase : attributeBase o name X.env (eval o X.env) = eval o X.env := by rfl) (hline : (apos.endLine == cpos.line) = true := by rfl) : PE X (.Call (.Attribute o name apos) [] [] cpos) (tBM0 X.K T r to) := by
 intro pins s σ H Q I h
 refine wpAny_Call_method0_late hbase hline (thn (ho pins s σ H _ I h) fun v s1 ⟨x, H1, I1, r1, ty, q1⟩ => ?_)
 obtain ⟨h1, h2⟩ := tyV_is I1 r1 ty
 exact ⟨T, id, pa, slot, hty, h1, h2, Calls.callWith_builtin rfl (PySem.evalArgs_none (hm pins s1 σ H1 x [] v [] Q I1 r1 .nil q1))⟩
theorem pe_bm (pa : PlainAttrs T) (slot : Slot T name id) (hty : typeOf (.builtin id) = pure (.type "method_descriptor")) (hm : MtR X id r) (ho : PE X o to) (ha : PA X (e :: es) t)
  (hbase : attributeBase o name X.env (eval o X.env) = eval o X.env := by rfl)
  (hfew : ((backTo cpos (starEach (e :: es) X.env)).all (fun x => !x.1) && (backToKw cpos (keywordEach [] X.env)).all (fun x => x.1.isSome)
   && decide ((e :: es).length + ([] : List Keyword).length + (if ([] : List Keyword).isEmpty then 0 else 1) < 30)) = true := by rfl)
  (hline : (apos.endLine == cpos.line) = true := by rfl) (hs : starEach (e :: es) X.env = (false, eval e X.env) :: starEach es X.env := by rfl) (hplain : (backTo cpos (starEach es X.env)).any (·.1) = false := by rfl) :
  PE X (.Call (.Attribute o name apos) (e :: es) [] cpos) (tBM X.K T r to t) := by
 intro pins s σ H Q I h
 refine wpAny_Call_method_late hbase hfew hline rfl (thn (ho pins s σ H _ I h) fun v s1 ⟨x, H1, I1, r1, ty, q1⟩ => ?_)
 obtain ⟨h1, h2⟩ := tyV_is I1 r1 ty
 refine ⟨T, id, pa, slot, hty, h1, h2, ?_⟩
 have hA := ha cpos pins s1 σ H1 _ I1 q1
 rw [hs] at hA ⊢
 refine Calls.callWith_builtin (by show (false || (backTo cpos (starEach es X.env)).any (·.1)) = false; rw [hplain] <;> rfl) (Calls.evalArgs_plain ?_)
 exact thn hA fun us s2 ⟨vs, H2, I2, r2, q2⟩ => hm pins s2 σ H2 x vs v us Q I2 r1 r2 q2
end
end L2
namespace L2
open PySem PySem.Spec PyProof.Rows
def MtM (X : Cx) (id : String) (r : V -> List V -> Hp -> VK -> Prop) : Prop :=
 ∀ (pins : List (Addr × Obj)) (s : Shared) (σ : St) (H : Hp) (x : V) (xs : List V) (v : Value) (us : List Value) (Q : VK), Inv X pins σ H s -> RelV x v -> Vals xs us -> r x xs H Q ->
  wpAny (model X.prog X.w) X.A (call (.builtin id) (v :: us)) (EP X pins σ Q) X.xe s
theorem Vals.one : ∀ {x : V} {us : List Value}, Vals [x] us -> ∃ u, us = [u] /\ RelV x u
 | _, _, .cons r .nil => ⟨_, rfl, r⟩
theorem Vals.zero : ∀ {us : List Value}, Vals [] us -> us = []
 | _, .nil => rfl
theorem Vals.dropLast {xs : List V} {us : List Value} (h : Vals xs us) : Vals xs.dropLast us.dropLast := by
 induction h with
 | nil => exact .nil
 | cons r t ih =>
  cases t with
  | nil => exact .nil
  | cons q t' => exact .cons r ih
theorem erase_last {α : Type} (l : List α) : l.eraseIdx (l.length - 1) = l.dropLast := by
 induction l with
 | nil => rfl
 | cons a r ih =>
  cases r with
  | nil => rfl
  | cons b r =>
   have e : (a :: b :: r).length - 1 = ((b :: r).length - 1) + 1 := by
    have h1 : (a :: b :: r).length = r.length + 2 := rfl
    have h2 : (b :: r).length = r.length + 1 := rfl
    omega
   rw [e, List.eraseIdx_cons_succ, ih]
   all_goals rfl
section
variable {X : Cx} {pins : List (Addr × Obj)} {σ : St} {H : Hp} {s : Shared} {l b : Addr} {xs ys zs : List V}
theorem Inv.lset {its its' : List Value} {n : Nat} {f : Array Value -> Array Value} {t' : Nat} (I : Inv X pins σ H s) (hH : H l = some (.lst xs))
  (e : s.heap.get? l = some { cls := .type "list", data := .seq its.toArray n }) (hf : f its.toArray = its'.toArray) (hv : Vals ys its') (hz : ys.length <= sizeLine) :
  Inv X pins σ (upd H l (.lst ys)) { s with heap := s.heap.update l (Obj.mapSeq f), toks := t' } := by
 have q := PySem.IsL.update e f
 rw [hf] at q
 refine I.write (x := l) (e := l) (by rw [hH]; exact trivial) (.inl rfl) (fun b' u hb hu => (Heap.get?_update_other s.heap (Obj.mapSeq f) (Ne.symm hb)).trans hu) ⟨_, q⟩ ?_
 exact ⟨hz, its', _, hv, q⟩
theorem Inv.lnew {its : List Value} {t' : Nat} (I : Inv X pins σ H s) (hv : Vals ys its) (hz : ys.length <= sizeLine) :
  Inv X pins σ (upd H s.heap.objs.size (.lst ys)) { s with heap := s.heap.push { cls := .type "list", data := .seq its.toArray }, toks := t' } :=
 I.laid (fun _ _ q => Heap.get?_push_of_some _ q) (Nat.le_refl _) ⟨hz, its, 0, hv, Heap.get?_push_size _ rfl⟩
theorem Inv.fresh (I : Inv X pins σ H s) : H s.heap.objs.size = none := I.hok.fresh (Nat.le_refl _)
theorem Inv.lstM (I : Inv X pins σ H s) (hH : H l = some (.lst xs)) : xs.length <= sizeLine /\ ∃ (its : List Value) (n : Nat), Vals xs its /\ xs.length = its.length /\ s.heap.get? l = some { cls := .type "list", data := .seq its.toArray n } := by
 obtain ⟨z, its, n, r, e⟩ := I.hok l _ hH
 exact ⟨z, its, n, r, r.length, e⟩
end
section
variable {X : Cx}
def rAppend : V -> List V -> Hp -> VK -> Prop := fun x vs H Q => ∃ l xs y, x = .ref l /\ vs = [y] /\ H l = some (.lst xs) /\ xs.length < sizeLine /\ Q .non (upd H l (.lst (xs ++ [y])))
theorem mt_append : MtM X "list.append" rAppend := by
 intro pins s σ H x vs v us Q I rx rv h
 obtain ⟨l, xs, y, rfl, rfl, hH, hz, q⟩ := h
 cases rx
 obtain ⟨u, rfl, ru⟩ := rv.one
 obtain ⟨z, its, n, r, hl, e⟩ := I.lstM hH
 refine call_meets F.slot_list_append ⟨_, e, rfl⟩ F.entry_list_append (F.args_list_append_2 _ _) (PySem.list_append l its.toArray n u (by rw [List.size_toArray]; omega)) ⟨e, ?_⟩
 refine ⟨.non, _, I.lset (its' := its ++ [u]) hH e (by simp) (r.append (.cons ru .nil)) ?_, rfl, q⟩
 rw [List.length_append, List.length_singleton]
 omega
def rPop : V -> List V -> Hp -> VK -> Prop := fun x vs H Q => ∃ l xs y, x = .ref l /\ vs = [] /\ H l = some (.lst xs) /\ xs[xs.length - 1]? = some y /\ Q y (upd H l (.lst xs.dropLast))
theorem mt_pop : MtM X "list.pop" rPop := by
 intro pins s σ H x vs v us Q I rx rv h
 obtain ⟨l, xs, y, rfl, rfl, hH, hy, q⟩ := h
 cases rx
 have hus := rv.zero
 subst hus
 obtain ⟨z, its, n, r, hl, e⟩ := I.lstM hH
 obtain ⟨u, hu, ru⟩ := r.get hy
 have hy' : its.toArray[its.toArray.size - 1]? = some u := by
  show its.toArray[its.length - 1]? = some u
  rw [<- Array.getElem?_toList, <- hl]
  exact hu
 refine call_meets F.slot_list_pop ⟨_, e, rfl⟩ F.entry_list_pop (F.args_list_pop_1 _) (MeetsSeq.list_pop_last l its.toArray n u hy' (by rw [List.size_toArray]; omega)) ⟨e, ?_⟩
 refine ⟨y, _, I.lset (its' := its.dropLast) hH e ?_ r.dropLast ?_, ru, q⟩
 ·show its.toArray.eraseIdxIfInBounds (its.toArray.size - 1) = its.dropLast.toArray
  rw [List.size_toArray, List.eraseIdxIfInBounds_toArray, erase_last]
 ·rw [List.length_dropLast]
  omega
end
section
variable {prog : Program} {w : World} {A : Around} {E : Value -> Shared -> Prop} {s : Shared}
end
section
variable {X : Cx}
end
end L2
namespace Att
open PySem PySem.W PySem.Calls PyProof.Rows
theorem ints_of_wellAll {P : Params} {h : Heap} : ∀ (ns : List Int) (vs : List Value), WellAll P h vs (ns.map WData.int) -> IntsAre vs ns := by
 intro ns
 induction ns with
 | nil =>
  intro vs w
  rw [List.map_nil] at w
  cases w
  exact .nil
 | cons n ns ih =>
  intro vs w
  rw [List.map_cons] at w
  cases w with
  | cons a b =>
   cases a
   exact .cons _ _ (ih _ b)
theorem script_of {l : OpenLaw} {n : Nat} (hn : l.most = some n) {P : Params} {h : Heap} {args : List WData} {vals : List Value}
  (hpre : l.row.toRowW.claim.pre args = true) (hwl : WellAll P h vals args) :
  ∃ a vs ns, vals = [Value.ref a] /\ args = [WData.list (ns.map WData.int)] /\ h.get? a = some { cls := .type "list", data := .seq vs.toArray } /\ IntsAre vs ns /\ ns.length <= n := by
 have hsh : WShape.hasAll [] args [.list .int] = true := (pre_splitW hpre).1
 have hc : l.pre.holds [] { args := args } = true := (pre_splitW hpre).2
 obtain ⟨d, r, rfl, h1, h2⟩ := hasAllW_cons hsh
 obtain rfl := hasAllW_nil h2
 obtain ⟨xs, rfl, h3⟩ := hasW_list h1
 obtain ⟨ns, rfl⟩ := items_int h3
 have hlen : ns.length <= n := by
  unfold OpenLaw.pre at hc
  have h4 : (WTm.not (.lt (.lit (.int (n : Int))) (.len (.arg 0)))).holds [] { args := [.list (ns.map .int)] } = true := by
   have h4 := (holds_andW hc).1
   rw [hn] at h4
   exact h4
  have h5 := condW_of h4 (w_not (w_lt w_lit (w_len_list (w_arg rfl))))
  rw [List.length_map] at h5
  refine Nat.le_of_not_lt fun q => ?_
  have q' : (n : Int) < ((ns.length : Nat) : Int) := by omega
  first
   | (rw [decide_eq_true q'] at h5; exact absurd h5 (by decide))
   | (simp at h5; omega)
 cases hwl with
 | cons w1 w2 =>
  cases w2
  cases w1 with
  | list ho hall => exact ⟨_, _, ns, rfl, rfl, ho, ints_of_wellAll ns _ hall, hlen⟩
theorem post_true (l : OpenLaw) (args : List WData) : l.row.toRowW.claim.post args (.bool true) args = true :=
 postW_of (r := l.row.toRowW) (X := (true == true))
  (show WShape.has [] (.bool true) .bool = true by first | rfl | decide | simp [WShape.has, WShape.arms, WShape.armsAll])
  (show (WTm.eq .res (.lit (.bool true))).value [] { args := args, res := some (.bool true), after := args } = some (.bool (true == true)) from w_eq_bool (w_res rfl) w_lit) rfl
theorem attach_call {l : OpenLaw} {n : Nat} {q : Program} {loose : List Str} {XP : (Str -> Option Value) -> Heap -> Prop} {YP : World -> Heap -> Prop} {d : DefRec}
  (hn : l.most = some n) (hdf : d.params.defaults = [])
  (call : ∀ (w : World) (s₀ s₁ : Shared) (mg mb : Str -> Option Value) (fa : Addr) (o : Obj) (pm cd doc : Value) (a : Addr) (vs : List Value) (ns : List Int),
   Ground q loose [] XP w s₀ mg mb s₁.heap -> YP w s₁.heap ->
   s₁.heap.get? fa = some o -> o.data = .func (docDef d.name d.params d.body d.scope pm cd doc) -> s₁.heap.CodeRec cd d.name -> mg d.name = some (.ref fa) ->
   s₁.heap.get? a = some { cls := .type "list", data := .seq vs.toArray } -> IntsAre vs ns -> ns.length <= n -> s₁.gens = #[] ->
   codeAny (model l.prog w) callerA (.call (.ref fa) ⟨[.ref a], []⟩) (fun r s' => r = .ok (.ret (.bool true)) /\ OldK s₁.heap s'.heap /\ s'.os = s₁.os /\ AllBare s'.gens) s₁) :
  WalkO q loose XP YP l.row.toRowW d [] (fun f vs => PySem.call f vs) := by
 intro w s₀ s₁ mg mb G Y fa o pm cd doc dV kV ho hd hcd hD hmg hg args vals as hpre hlay hrd hwl hlo
 obtain rfl : dV = .none := Dflts.none hD hdf
 obtain rfl : kV = .none := Dflts.noKw hD
 obtain ⟨a, vs, ns, rfl, rfl, hobj, hints, hlen⟩ := script_of hn hpre hwl
 refine enter_call (codeAny_mono (call w s₀ s₁ mg mb fa o pm cd doc a vs ns G Y ho (fd_plain hd) hcd hmg hobj hints hlen hg) fun r s' hq => ?_)
 obtain ⟨rfl, h2, h3, h4⟩ := hq
 exact ⟨.inl ⟨.bool true, .bool true, [], rfl, fun _ => rfl, .bool true, post_true l _, fun _ => ⟨List.Pairwise.nil, fun _ hm => (nomatch hm)⟩⟩, h2, h3, h4⟩
section
variable {prog : Program} {w : World} {A : Around} {E : Value -> Shared -> Prop} {s : Shared} {K : Frag}
end
end Att
namespace L2
open PySem PySem.Spec PyProof.Rows
theorem vals_ints : ∀ {vs : List Value} {ns : List Int}, IntsAre vs ns -> Vals (ns.map V.int) vs
 | _, _, .nil => .nil
 | _, _, .cons n t h => .cons ⟨t, rfl⟩ (vals_ints h)
def Only (H : Hp) : Prop := ∀ b, H b = none \/ ∃ o xs, H b = some (.frz o (.lst xs))
theorem law_call {P : Program} {w : World} {K : PySem.W.Frag} {mg mb : Str -> Option Value} {CX : CXT} {k : Nat} {fa a : Addr} {fd : FuncData} {x : Str} {sp : Sp} {s₁ : Shared} {vs : List Value} {ns : List Int}
  (KX : K.In s₁.heap) (hns : s₁.heap.Ns mainGlobals mg) (hb : s₁.heap.Ns builtinsNs mb) (hbb : ∀ x : Str, x ≠ "__name__" -> mb x = bootBuiltins x) (hlim : s₁.heap.NoLimit) (hg : s₁.gens = #[])
  (ha : s₁.heap.get? a = some { cls := .type "list", data := .seq vs.toArray }) (hi : IntsAre vs ns) (hl : ns.length <= sizeLine) (hr : Room k callerA)
  (F : ∀ base : Heap, K.In base -> base.Ns mainGlobals mg -> FnOk P w K mg base CX k fa fd [x] sp) (hbind : ∀ (s : Shared) (u : Value), BindsTo s fd ⟨[u], []⟩ [(x, u)])
  (hsp : ∀ H : Hp, Only H -> SqL K H a (ns.map V.int) -> sp [.ref a] H (fun v _ => v = .bl true) fun _ _ _ => False)
  (hCX : ∀ H e s', CX [] H s₁ (fun _ _ _ => False) e s' -> False) :
  codeAny (model P w) callerA (.call (.ref fa) ⟨[.ref a], []⟩) (fun r s' => r = .ok (.ret (.bool true)) /\ OldK s₁.heap s'.heap /\ s'.os = s₁.os /\ AllBare s'.gens) s₁ := by
 have rv := vals_ints hi
 have lenV := hi.length
 -- from an abstract heap in which nothing but the script may be tracked
 have core : ∀ H : Hp, Only H -> SqL K H a (ns.map V.int) -> HOk P w H s₁.heap -> (∀ b, H b ≠ none -> b = a) -> (H a ≠ none -> K.lookup a = none) ->
   codeAny (model P w) callerA (.call (.ref fa) ⟨[.ref a], []⟩) (fun r s' => r = .ok (.ret (.bool true)) /\ OldK s₁.heap s'.heap /\ s'.os = s₁.os /\ AllBare s'.gens) s₁ := by
  intro H hO hS hok hA hK
  have base_of : ∀ {b : Addr} {o : Obj}, s₁.heap.get? b = some o -> H b = none -> (hidT s₁.heap H).get? b = some o := fun e n => hidT_get e n
  have noA : ∀ {b : Addr} {o : Obj} {es : Array DictEntry} {ep : Nat}, s₁.heap.get? b = some o -> o.data = .dict es ep -> H b = none := fun {b o es ep} e d => by
   cases q : H b with
   | none => rfl
   | some u =>
    have e' : b = a := hA b (by rw [q]; simp)
    subst e'
    rw [ha] at e; cases e
    have d' : Data.seq vs.toArray _ = Data.dict es ep := d
    cases d'
  have nsK : ∀ {b : Addr} {m : Str -> Option Value}, s₁.heap.Ns b m -> (hidT s₁.heap H).Ns b m := fun {b m} ⟨o, es, ep, e, d, r⟩ => ⟨o, es, ep, base_of e (noA e d), d, r⟩
  have hKb : K.In (hidT s₁.heap H) := fun b o e => base_of (KX b o e) (by
   cases q : H b with
   | none => rfl
   | some u =>
    have e' : b = a := hA b (by rw [q]; simp)
    subst e'
    rw [hK (by rw [q]; simp)] at e; cases e)
  have hM : Mod K mg (hidT s₁.heap H) := ⟨hKb, nsK hns, ⟨mb, nsK hb, hbb⟩, let ⟨mc, h1, h2⟩ := hlim; ⟨mc, nsK h1, h2⟩⟩
  have e0 : Env0 P w K mg (hidT s₁.heap H) callerA [] s₁ H := ⟨rfl, hM, fun b o e => of_hidT e, Nat.le_of_eq (hidT_size _ _), trivial, fun b hb => absurd (show b ∈ ([] : List Addr) from hb) (by simp), hok, .of_eq hg⟩
  refine codeAny_mono ((F _ hKb (nsK hns)).run callerA [] s₁ H ⟨[.ref a], []⟩ [.ref a] [.ref a] _ _ hr e0 (hbind s₁ (.ref a)) (.cons rfl .nil) (hsp H hO hS)) fun r s' h => ?_
  cases r with
  | error e => exact (hCX H e s' h).elim
  | ok fl =>
   cases fl with
   | next => exact False.elim h
   | brk => exact False.elim h
   | cont => exact False.elim h
   | ret u =>
    obtain ⟨v, H', os, bare, un, hok', r', q⟩ := h
    have q' : v = .bl true := q
    subst q'
    obtain rfl : u = Value.bool true := r'
    refine ⟨rfl, OldK.of_keep fun b o e => ?_, os, bare⟩
    cases q : H b with
    | none => exact un.keep b o e q (by intro z; exact absurd (show b ∈ ([] : List Addr) from z) (by simp)) (by simp)
    | some u =>
     rcases hO b with z | ⟨ob, xs, z⟩
     ·rw [q] at z; cases z
     ·have z2 := un.frzs b ob _ z
      obtain ⟨e1, _⟩ := hok b _ z
      obtain ⟨e2, _⟩ := hok' b _ z2
      rw [e] at e1; cases e1
      exact e2
 cases hk : K.lookup a with
 | some o =>
  -- the script is one of the module's own objects
  have e := KX a o hk
  rw [ha] at e
  cases e
  refine core (fun _ => none) (fun _ => .inl rfl) (.inr ⟨_, vs.toArray, _, hk, rfl, rfl, rfl, by rw [List.size_toArray, lenV]; exact hl, by simpa using rv⟩) (fun b u z => by have z' : (none : Option HO) = some u := z; cases z') (fun b z => absurd rfl z) fun z => absurd rfl z
 | none =>
  refine core (fun b => if b = a then some (.frz { cls := .type "list", data := .seq vs.toArray } (.lst (ns.map V.int))) else none) (fun b => ?_) (.inl (.inr ⟨{ cls := .type "list", data := .seq vs.toArray }, if_pos rfl⟩)) (fun b u z => ?_) (fun b z => ?_) fun _ => hk
  ·by_cases hb : b = a
   ·exact .inr ⟨_, _, if_pos hb⟩
   ·exact .inl (if_neg hb)
  ·by_cases hb : b = a
   ·have z' := (if_pos hb).symm.trans z
    cases z'
    subst hb
    exact ⟨ha, by rw [List.length_map]; exact hl, vs, _, rv, ha⟩
   ·have z' := (if_neg hb).symm.trans z
    cases z'
  ·by_cases hb : b = a
   ·exact hb
   ·exact absurd (if_neg hb) z
end L2
namespace L2
open PySem PySem.Spec PyProof.Rows
theorem walk_of {l : PySem.W.OpenLaw} {n k : Nat} {q : Program} {loose : List Str} {XP : (Str -> Option Value) -> Heap -> Prop} {YP : World -> Heap -> Prop} {d : DefRec} {K : Params -> PySem.W.Frag} {CX : World -> CXT} {sp : World -> Sp} {x : Str}
  (hn : l.most = some n) (hn2 : n <= sizeLine) (hdf : d.params.defaults = []) (hr : Room k callerA)
  (hY : ∀ (w : World) (h : Heap), YP w h -> (K w.params).In h)
  (F : ∀ (w : World) (mg : Str -> Option Value) (fa : Addr) (h : Heap), (K w.params).In h -> h.Ns mainGlobals mg -> mg d.name = some (.ref fa) ->
   ∃ fd : FuncData, (∀ (s : Shared) (u : Value), BindsTo s fd ⟨[u], []⟩ [(x, u)]) /\
    ∀ base : Heap, (K w.params).In base -> base.Ns mainGlobals mg -> FnOk l.prog w (K w.params) mg base (CX w) k fa fd [x] (sp w))
  (hsp : ∀ (w : World) (H : Hp) (a : Addr) (ns : List Int), ns.length <= n -> Only H -> SqL (K w.params) H a (ns.map V.int) -> sp w [.ref a] H (fun v _ => v = .bl true) fun _ _ _ => False)
  (hCX : ∀ (w : World) (H : Hp) (s : Shared) (e : Value) (s' : Shared), CX w [] H s (fun _ _ _ => False) e s' -> False) :
  PySem.W.WalkO q loose XP YP l.row.toRowW d [] (fun f vs => PySem.call f vs) := by
 refine Att.attach_call hn hdf fun w s₀ s₁ mg mb fa o pm cd doc a vs ns G Y ho hd hcd hmg hobj hints hlen hg => ?_
 have KX := hY w _ Y
 obtain ⟨fd, hb, hF⟩ := F w mg fa _ KX G.T.g hmg
 exact law_call KX G.T.g G.T.b G.T.builtins G.T.nolimit hg hobj hints (Nat.le_trans hlen hn2) hr hF hb (fun H hO hS => hsp w H a ns hlen hO hS) fun H e s' => hCX w H s₁ e s'
end L2
namespace L2
open PySem PySem.Spec PyProof.Rows
noncomputable def defArgs (s : Stmt) : Arguments := match s with
 | .FunctionDef _ a _ _ _ _ _ _ _ _ => a
 | _ => { posonlyargs := [], args := [], vararg := none, kwonlyargs := [], kw_defaults := [], kwarg := none, defaults := [] }
noncomputable def defBody (s : Stmt) : List Stmt := match s with
 | .FunctionDef _ _ b _ _ _ _ _ _ _ => b
 | _ => []
noncomputable def defScope (s : Stmt) : Scope := match s with
 | .FunctionDef _ _ _ _ _ _ sc _ _ _ => sc
 | _ => { kind := .function, names := [], isGenerator := false, isCoroutine := false }
abbrev CX0 : CXT := fun _ _ _ _ _ _ => False
abbrev E0 : XK := fun _ _ _ => False
theorem pass0 {X : Cx} : Passes CX0 X E0 := fun _ _ _ _ _ _ _ h => h.elim
structure Fun (K : PySem.W.Frag) (x qual : Str) (st : Stmt) (f : Addr) (fd : FuncData) : Prop where
 ex : ∃ (oc : Value) (od : Option Addr) (kV doc pm : Value) (an : Option Addr) (cdv ct : Value) (osl : Array (Option Value)),
  fd = PySem.W.fnOf x qual (defArgs st) (defBody st) (defScope st) .none kV doc pm an cdv ct /\ K.lookup f = some ⟨oc, od, .func fd, osl⟩ /\ PySem.W.codeIn K cdv qual = true
 kp : PySem.W.keepIn K (.ref f) = true
section
variable {P : Program} {w : World} {K : PySem.W.Frag} {mg : Str -> Option Value} {base : Heap}
theorem Fun.ok {x qual : Str} {st : Stmt} {f : Addr} {fd : FuncData} {N ps : List Str} {k : Nat} {sp : Sp} (F : Fun K x qual st f fd) (S : FnScope N ps (defScope st)) (len : ∀ vs H Q E, sp vs H Q E -> vs.length = ps.length)
  (hbody : ∀ (cdv : Value) (A : Around) (outer : List Env) (s : Shared) (H : Hp) (vs : List V) (Q : VK) (E : XK), Room k (A.deeper (envOfC qual (defScope st) s.heap.objs.size f cdv)) -> sp vs H Q E ->
   ∃ t, PSs (cxOf CX0 P w K mg base N qual (defScope st) f cdv A outer s H E).nox (defBody st) t /\ t { nx := fun _ H' => Q .non H', rt := Q } (start N vs) H) : FnOk P w K mg base CX0 (k + 1) f fd ps sp := by
 obtain ⟨oc, od, kV, doc, pm, an, cdv, ct, osl, rfl, lk, hcd⟩ := F.ex
 refine fn_of lk hcd S len fun A outer s H vs Q E hr hsp => ?_
 obtain ⟨t, h, q⟩ := hbody cdv A outer s H vs Q E hr hsp
 exact ⟨t, h.nox, q⟩
theorem Fun.binds {x qual : Str} {st : Stmt} {f : Addr} {fd : FuncData} {ps : List Str} (F : Fun K x qual st f fd)
  (h : ∀ (kV doc pm : Value) (an : Option Addr) (cdv ct : Value) (us : List Value), us.length = ps.length -> bindArgs (PySem.W.fnOf x qual (defArgs st) (defBody st) (defScope st) .none kV doc pm an cdv ct) ⟨us, []⟩ = pure (ps.zip us)) : Binds K fd ps [] := by
 obtain ⟨oc, od, kV, doc, pm, an, cdv, ct, osl, rfl, lk, hcd⟩ := F.ex
 exact .all (h kV doc pm an cdv ct)
theorem fun_mk {x qual : Str} {st : Stmt} {f : Addr} {oc : Value} {od an : Option Addr} {osl : Array (Option Value)} {kV doc pm cdv ct : Value} (l : K.lookup f = some ⟨oc, od, .func (PySem.W.fnOf x qual (defArgs st) (defBody st) (defScope st) .none kV doc pm an cdv ct), osl⟩)
  (c : PySem.W.codeIn K cdv qual = true) (k : PySem.W.keepIn K (.ref f) = true) : Fun K x qual st f (PySem.W.fnOf x qual (defArgs st) (defBody st) (defScope st) .none kV doc pm an cdv ct) := ⟨⟨oc, od, kV, doc, pm, an, cdv, ct, osl, rfl, l, c⟩, k⟩
end
section
variable {X : Cx}
theorem pv (i : Nat) {x : Str} {pos : Pos} (hN : X.N[i]? = some x := by rfl) (hv : Vis X.env.scope x := by first | exact Or.inl rfl | exact Or.inr (Or.inl rfl) | exact Or.inr (Or.inr rfl)) (hd : (x == ("__debug__" : Str)) = false := by decide)
  (hcd : (x == ("__classdict__" : Str)) = false := by decide) : PE X (.Name x pos) (tVar i) := pe_var hN hv hd hcd
end
end L2
namespace PySem
theorem closure_go {env : Env} : ∀ (l : List (Str × NameKind)) (acc : List (Str × Addr)), (∀ y ∈ l, y.2 = .free -> ∃ c, env.cells.lookup y.1 = some c) ->
  ∃ cl, (forIn l acc (fun (x : Str × NameKind) r => if (x.2 == NameKind.free) = true then do let a <- cellOf env x.1; pure (ForInStep.yield ((x.1, a) :: r)) else pure (ForInStep.yield r)) : Sem (List (Str × Addr))) = pure cl /\
   (∀ x c, cl.lookup x = some c -> acc.lookup x = some c \/ ((x, NameKind.free) ∈ l /\ env.cells.lookup x = some c)) /\ (∀ x, (x, NameKind.free) ∈ l \/ (acc.lookup x).isSome -> (cl.lookup x).isSome)
 | [], acc, _ => ⟨acc, rfl, fun x c h => .inl h, fun x h => by simpa using h⟩
 | (n, k) :: l, acc, h => by
  by_cases hk : k = .free
  ·subst hk
   obtain ⟨c, hc⟩ := h (n, .free) List.mem_cons_self rfl
   obtain ⟨cl, e1, e2, e3⟩ := closure_go l ((n, c) :: acc) fun y hy => h y (List.mem_cons_of_mem _ hy)
   refine ⟨cl, ?_, fun x d hx => ?_, fun x hx => ?_⟩
   ·rw [List.forIn_cons]
    simp only [beq_self_eq_true, if_true, cellOf, hc]
    exact e1
   ·rcases e2 x d hx with q | ⟨q1, q2⟩
    ·rw [List.lookup_cons] at q
     cases hxn : x == n with
     | true =>
      rw [hxn] at q
      have : x = n := by simpa using hxn
      subst this
      refine .inr ⟨List.mem_cons_self, ?_⟩
      rw [hc]; exact q
     | false => rw [hxn] at q; exact .inl q
    ·exact .inr ⟨List.mem_cons_of_mem _ q1, q2⟩
   ·refine e3 x ?_
    rcases hx with hx | hx
    ·rcases List.mem_cons.mp hx with q | q
     ·have : x = n := congrArg Prod.fst q
      subst this
      exact .inr (by simp [List.lookup_cons])
     ·exact .inl q
    ·refine .inr ?_
     rw [List.lookup_cons]
     cases x == n <;> simp [hx]
  ·have hb : (k == NameKind.free) = false := by simpa using hk
   obtain ⟨cl, e1, e2, e3⟩ := closure_go l acc fun y hy => h y (List.mem_cons_of_mem _ hy)
   refine ⟨cl, ?_, fun x d hx => ?_, fun x hx => ?_⟩
   ·rw [List.forIn_cons]
    simp only [hb, Bool.false_eq_true, if_false]
    exact e1
   ·rcases e2 x d hx with q | ⟨q1, q2⟩
    ·exact .inl q
    ·exact .inr ⟨List.mem_cons_of_mem _ q1, q2⟩
   ·refine e3 x ?_
    rcases hx with hx | hx
    ·rcases List.mem_cons.mp hx with q | q
     ·exact absurd (congrArg Prod.snd q).symm hk
     ·exact .inl q
    ·exact .inr hx
theorem closure_of {scope : Scope} {env : Env} (h : ∀ y ∈ scope.names, y.2 = .free -> ∃ c, env.cells.lookup y.1 = some c) :
  ∃ cl, closureFor scope env = pure cl /\ (∀ x c, cl.lookup x = some c -> (x, NameKind.free) ∈ scope.names /\ env.cells.lookup x = some c) /\ ∀ x, (x, NameKind.free) ∈ scope.names -> (cl.lookup x).isSome := by
 obtain ⟨cl, e1, e2, e3⟩ := closure_go (env := env) scope.names [] h
 refine ⟨cl, ?_, fun x c hx => ?_, fun x hx => e3 x (.inl hx)⟩
 ·simp only [closureFor]
  rw [e1]
  rfl
 ·rcases e2 x c hx with q | q
  ·simp at q
  ·exact q
theorem lookup_relabel_free {env : Env} : ∀ {names : List (Str × NameKind)} {x : Str}, names.lookup x = some .free ->
  (names.map fun (n, k) => if (k == NameKind.free && env.scope.kind == .function && env.kindOf n == some .cell) then (n, NameKind.cell) else (n, k)).lookup x = some .cell \/
  (names.map fun (n, k) => if (k == NameKind.free && env.scope.kind == .function && env.kindOf n == some .cell) then (n, NameKind.cell) else (n, k)).lookup x = some .free
 | [], _, h => by simp at h
 | (n, k) :: r, x, h => by
  have ih := @lookup_relabel_free env r x
  show List.lookup x ((if (k == NameKind.free && env.scope.kind == .function && env.kindOf n == some .cell) = true then (n, NameKind.cell) else (n, k)) :: _) = _ \/ List.lookup x ((if (k == NameKind.free && env.scope.kind == .function && env.kindOf n == some .cell) = true then (n, NameKind.cell) else (n, k)) :: _) = _
  cases hx : x == n with
  | true =>
   simp only [List.lookup_cons, hx] at h
   cases h
   by_cases hc : (NameKind.free == NameKind.free && env.scope.kind == .function && env.kindOf n == some .cell) = true
   ·rw [if_pos hc]; simp [List.lookup_cons, hx]
   ·rw [if_neg hc]; simp [List.lookup_cons, hx]
  | false =>
   simp only [List.lookup_cons, hx] at h
   by_cases hc : (k == NameKind.free && env.scope.kind == .function && env.kindOf n == some .cell) = true
   ·rw [if_pos hc]; simp only [List.lookup_cons, hx]; exact ih h
   ·rw [if_neg hc]; simp only [List.lookup_cons, hx]; exact ih h
theorem relabel_back {env : Env} : ∀ {names : List (Str × NameKind)} {x : Str}, (∀ y ∈ names, y.2 ≠ .cell) ->
  ((names.map fun (n, k) => if (k == NameKind.free && env.scope.kind == .function && env.kindOf n == some .cell) then (n, NameKind.cell) else (n, k)).lookup x = some .cell \/
  (names.map fun (n, k) => if (k == NameKind.free && env.scope.kind == .function && env.kindOf n == some .cell) then (n, NameKind.cell) else (n, k)).lookup x = some .free) -> (x, NameKind.free) ∈ names
 | [], _, _, h => by simp at h
 | (n, k) :: r, x, hn, h => by
  have ih := @relabel_back env r x fun y hy => hn y (List.mem_cons_of_mem _ hy)
  have h' : List.lookup x ((if (k == NameKind.free && env.scope.kind == .function && env.kindOf n == some .cell) = true then (n, NameKind.cell) else (n, k)) :: _) = some .cell \/ List.lookup x ((if (k == NameKind.free && env.scope.kind == .function && env.kindOf n == some .cell) = true then (n, NameKind.cell) else (n, k)) :: _) = some .free := h
  have hf : ∀ k', ((if (k == NameKind.free && env.scope.kind == .function && env.kindOf n == some .cell) = true then (n, NameKind.cell) else (n, k)) : Str × NameKind) = (n, k') -> (k' = .cell \/ k' = .free) -> k = .free := by
   intro k' e hk'
   by_cases hc : (k == NameKind.free && env.scope.kind == .function && env.kindOf n == some .cell) = true
   ·simp only [Bool.and_eq_true] at hc; simpa using hc.1.1
   ·rw [if_neg hc] at e
    have : k = k' := congrArg Prod.snd e
    subst this
    rcases hk' with q | q
    ·exact absurd q (hn (n, k) List.mem_cons_self)
    ·exact q
  cases hx : x == n with
  | true =>
   have hxn : x = n := by simpa using hx
   subst hxn
   by_cases hc : (k == NameKind.free && env.scope.kind == .function && env.kindOf x == some .cell) = true
   ·simp only [Bool.and_eq_true] at hc
    have : k = .free := by simpa using hc.1.1
    subst this; exact List.mem_cons_self
   ·rw [if_neg hc] at h'
    simp only [List.lookup_cons, beq_self_eq_true] at h'
    rcases h' with q | q
    ·exact absurd (Option.some.inj q) (hn (x, k) List.mem_cons_self)
    ·have := Option.some.inj q
     subst this; exact List.mem_cons_self
  | false =>
   refine List.mem_cons_of_mem _ (ih ?_)
   by_cases hc : (k == NameKind.free && env.scope.kind == .function && env.kindOf n == some .cell) = true
   ·rw [if_pos hc] at h'; simp only [List.lookup_cons, hx] at h'; exact h'
   ·rw [if_neg hc] at h'; simp only [List.lookup_cons, hx] at h'; exact h'
end PySem
namespace L2
open PySem PySem.Spec PyProof.Rows
noncomputable def pickSt (pick : List (Option Nat)) (σ : St) : St := pick.map fun o => o.bind fun i => (σ[i]?).join
noncomputable def cxC (X : Cx) (N' : List Str) (scope : Scope) (cl : List (Str × Addr)) (C : Addr) (s : Shared) (H : Hp) (ex : List Addr) : Cx :=
 { X with N := N', s₀ := s, H₀ := H, env := compEnvC scope cl C X.env, outer := X.stack, stack := X.stack, ex := ex, fn := fun _ => false, pn := [], xe := fun _ _ => False }
noncomputable def pickOk (N N' : List Str) (pick : List (Option Nat)) (scope : Scope) : Bool := (N'.zip pick).all fun p => match p.2 with
 | none => true
 | some j => decide (N[j]? = some p.1) && decide (scope.names.lookup p.1 = some .free)
structure CScope (X : Cx) (N' : List Str) (pick : List (Option Nat)) (scope : Scope) : Prop where
 kind : scope.kind = .function
 nocell : ∀ y ∈ scope.names, y.2 ≠ .cell
 names : ∀ y ∈ scope.names, y.2 = .local -> scope.names.lookup y.1 = some .local
 free : ∀ y ∈ scope.names, y.2 = .free -> X.env.scope.names.lookup y.1 = some .cell \/ X.env.scope.names.lookup y.1 = some .free
 len : pick.length = N'.length
 ok : pickOk X.N N' pick scope = true
theorem pickOk.get {N N' : List Str} {pick : List (Option Nat)} {scope : Scope} (h : pickOk N N' pick scope = true) {i j : Nat} {x : Str} (h1 : N'[i]? = some x) (h2 : pick[i]? = some (some j)) : N[j]? = some x /\ scope.names.lookup x = some .free := by
 unfold pickOk at h
 have hm : (x, some j) ∈ N'.zip pick := by
  refine List.mem_of_getElem? (i := i) ?_
  rw [List.getElem?_zip_eq_some]
  exact ⟨h1, h2⟩
 have q := List.all_eq_true.mp h _ hm
 simp only [Bool.and_eq_true, decide_eq_true_eq] at q
 exact q
theorem pickSt.get {pick : List (Option Nat)} {σ : St} {i : Nat} {v : V} (h : (pickSt pick σ)[i]? = some (some v)) : ∃ j, pick[i]? = some (some j) /\ σ[j]? = some (some v) := by
 unfold pickSt at h
 rw [List.getElem?_map] at h
 cases e : pick[i]? with
 | none => rw [e] at h; cases h
 | some o =>
  rw [e] at h
  cases o with
  | none => simp at h
  | some j =>
   refine ⟨j, rfl, ?_⟩
   simp only [Option.map_some, Option.some.injEq, Option.bind_some] at h
   cases q : σ[j]? with
   | none => rw [q] at h; simp at h
   | some w => rw [q] at h; simp at h; rw [h]
def PF (X : Cx) (ifs : List Expr) (t : TT) : Prop := ∀ (pins : List (Addr × Obj)) (s : Shared) (σ : St) (H : Hp) (Q : Bool -> Hp -> Prop), Inv X pins σ H s -> t σ H Q ->
 wpAny (model X.prog X.w) X.A (forIn ifs true fun c r => if r = true then do let ok <- isTrue c X.env (eval c X.env); pure (ForInStep.yield ok) else pure (ForInStep.yield r)) (TP X pins σ Q) X.xe s
theorem pf_nil {X : Cx} : PF X [] (fun _ H Q => Q true H) := fun _ _ _ H _ I h => wpAny_tests_nil ⟨H, I, h⟩
def tLC (pick : List (Option Nat)) (wi : TI) (g : TG) (tc : TT) (te : TE) : TE := fun σ H Q => wi σ H fun J H1 => ∀ D, H1 D = none -> ∃ W : Nat -> Nat -> St -> Hp -> Prop, (∃ m, W 0 m (pickSt pick σ) (upd H1 D (.lst []))) /\
 ∀ i m σ H, W i m σ H -> (J.stop i H /\ Q (.ref D) H) \/ (J.go i H /\ ∀ x H', J.yld i H x H' -> g x σ H' fun σ2 H2 => tc σ2 H2 fun b H3 =>
  if b = true then te σ2 H3 fun y H4 => ∃ ys m', H4 D = some (.lst ys) /\ ys.length < sizeLine /\ m' < m /\ W (i + 1) m' σ2 (upd H4 D (.lst (ys ++ [y]))) else ∃ m', m' < m /\ W (i + 1) m' σ2 H3)
section
variable {X : Cx} {pins : List (Addr × Obj)} {σ : St} {H : Hp} {s : Shared} {N' : List Str} {pick : List (Option Nat)} {scope : Scope} {cl : List (Str × Addr)} {C : Addr} {fp : List Addr}
theorem inv_comp (S : CScope X N' pick scope) (I : Inv X pins σ H s) (hfp : ∀ b ∈ fp, FpOk X pins H b) (hlt : ∀ b ∈ fp, b < s.heap.objs.size)
  (c1 : ∀ x c, cl.lookup x = some c -> (x, NameKind.free) ∈ scope.names /\ X.env.cells.lookup x = some c) (c2 : ∀ x, (x, NameKind.free) ∈ scope.names -> (cl.lookup x).isSome)
  {h1 : Heap} {m1 : Str -> Option Value} {t' : Nat} (hC : s.heap.objs.size < C) (old : ∀ b o, s.heap.get? b = some o -> h1.get? b = some o) (hns : h1.Ns C m1)
  (hD : h1.get? s.heap.objs.size = some { cls := .type "list", data := .seq #[] 0 }) :
  Inv (cxC X N' scope cl C s H fp) [] (pickSt pick σ) (upd H s.heap.objs.size (.lst [])) { s with heap := h1, toks := t' } := by
 have hDn : H s.heap.objs.size = none := I.hok.fresh (Nat.le_refl _)
 have hCn : H C = none := I.hok.fresh (Nat.le_of_lt hC)
 have clt : ∀ x c, cl.lookup x = some c -> c < s.heap.objs.size := fun x c e => by
  obtain ⟨v, q⟩ := I.cell x c (c1 x c e).2
  exact q.lt
 refine ⟨⟨I.ok.mod, S.kind, I.ok.glob, I.ok.blt, Nat.le_of_lt hC, fun x y c e1 e2 => I.ok.inj x y c (c1 x c e1).2 (c1 y c e2).2, fun x hx => ?_, fun x c hf _ => absurd (show false = true from hf) Bool.false_ne_true, I.ok.hd, I.ok.frames, .inl rfl,
  fun b hb => ⟨Nat.ne_of_lt (Nat.lt_trans (hlt b hb) hC), fun x c e => (hfp b hb).2.2.2.2.1 x c (c1 x c e).2⟩, I.bs, Nat.le_trans I.ok.bsz I.sz, fun b o e hb => ?_, fun b hb z => ?_, I.stack, I.stkFree⟩,
  rfl, I.bare, Un.laid old (Nat.le_refl _) hDn, ⟨m1, hns, fun i x v e1 e2 e3 => ?_⟩, fun x c e => ?_, ?_, fun x c e => ?_, fun p hp => absurd (show p ∈ ([] : List (Addr × Obj)) from hp) (by simp), I.hok.laid old (Nat.le_refl _) ?_, ?_⟩
 ·exact Option.isSome_iff_exists.mp (c2 x (relabel_back S.nocell hx))
 ·rcases (hfp b hb).2.2.2.1 with z | z
  ·exact I.ok.noex b o e z
  ·exact absurd (Nat.lt_of_lt_of_le (Heap.lt_size (I.ok.bs b o e).1) z) (Nat.lt_irrefl _)
 ·rcases List.mem_cons.mp (I.stkSub b z) with q | q
  ·exact (hfp b hb).2.1 q
  ·exact (hfp b hb).2.2.1 q
 ·obtain ⟨j, p1, p2⟩ := pickSt.get e2
  obtain ⟨q1, q2⟩ := pickOk.get S.ok e1 p1
  obtain ⟨m0, n0, l0⟩ := I.loc
  have hm : (x, NameKind.free) ∈ scope.names := PySem.mem_of_lookup q2
  have hk : X.env.scope.names.lookup x = some .cell \/ X.env.scope.names.lookup x = some .free := S.free _ hm rfl
  obtain ⟨u, r, l⟩ := l0 j x v q1 p2 (.inr hk)
  refine ⟨u, r, .inr ⟨lookup_relabel_free q2, ?_⟩⟩
  rcases l with ⟨k, _⟩ | ⟨_, c, e, z⟩
  ·have k' : X.env.scope.names.lookup x = some .local := k
   rcases hk with hk | hk <;> (rw [k'] at hk; cases hk)
  ·obtain ⟨c', e'⟩ := Option.isSome_iff_exists.mp (c2 x hm)
   have e'' := (c1 x c' e').2
   rw [e] at e''; cases e''
   obtain ⟨o, z1, z2⟩ := z
   exact ⟨c, e', o, old _ _ z1, z2⟩
 ·obtain ⟨v, o, z1, z2⟩ := I.cell x c (c1 x c e).2
  exact ⟨v, o, old _ _ z1, z2⟩
 ·show upd H s.heap.objs.size (.lst []) C = none
  rw [upd_ne (Nat.ne_of_gt hC)]; exact hCn
 ·show upd H s.heap.objs.size (.lst []) c = none
  rw [upd_ne (Nat.ne_of_lt (clt x c e))]; exact I.freeC x c (c1 x c e).2
 ·exact ⟨Nat.zero_le _, [], 0, .nil, hD⟩
 ·show (pickSt pick σ).length = N'.length
  unfold pickSt
  rw [List.length_map]; exact S.len
theorem inv_uncomp {σ' : St} {H' : Hp} {s' : Shared} {oC : Obj} (I : Inv X pins σ H s) (hfp : ∀ b ∈ fp, FpOk X pins H b) (hC : s.heap.objs.size < C)
  (I' : Inv (cxC X N' scope cl C s H fp) [] σ' H' s') (hoC : s'.heap.get? C = some oC) : Inv X (pins ++ [(C, oC)]) σ H' s' := by
 have J : Inv X pins σ H' s' := I.call' (ch := fp) I'.os I'.base I'.hok I'.bare fun b hb => ⟨(hfp b hb).2.2.2.1, (hfp b hb).2.1, (hfp b hb).2.2.2.2.1, (hfp b hb).2.2.2.2.2⟩
 refine J.pins_of fun p hp => (List.mem_append.mp hp).elim (fun z => J.pin p (List.mem_append_right _ z)) fun z => ?_
 obtain rfl : p = (C, oC) := List.mem_singleton.mp z
 refine ⟨hoC, I'.free, Nat.ne_of_gt (Nat.lt_trans I.lt hC), I.nofs (Nat.le_of_lt hC), fun v hv => ?_⟩
 obtain ⟨m, ⟨o, es, ep, ho, hd, _⟩, _⟩ := I'.loc
 have ho' : s'.heap.get? C = some o := ho
 rw [hoC] at ho'; cases ho'
 rw [hd] at hv; cases hv
theorem inv_letgo {σ' : St} {H' : Hp} {s' : Shared} {oC : Obj} {h' : Heap} (I : Inv X pins σ H s) (hC : s.heap.objs.size < C) (J : Inv X (pins ++ [(C, oC)]) σ' H' s') (hs : Heap.SameBut C s'.heap h') : Inv X pins σ' H' { s' with heap := h' } := by
 have J' := J.unpinned
 have hp := J.pin (C, oC) (List.mem_append_right _ (List.mem_append_right _ (List.mem_singleton.mpr rfl)))
 have lt : ∀ c, c < s.heap.objs.size -> c ≠ C := fun c h => Nat.ne_of_lt (Nat.lt_trans h hC)
 refine J'.turned (t' := s'.toks) (it := C) (fun b o hb e => hs.extBut b o hb e) hp.2.1 hp.2.2.1 (.inr (Nat.le_trans I.sz (Nat.le_of_lt hC))) (fun x c e z => ?_) (fun p hq z => ?_)
 ·obtain ⟨v, q⟩ := I.cell x c e
  exact lt c q.lt z
 ·exact lt p.1 (Heap.lt_size (I.pin p hq).1) z
end
section
variable {X : Cx} {N' : List Str} {pick : List (Option Nat)} {scope : Scope} {elt iter tg : Expr} {ifs : List Expr} {pos : Pos} {wi : TI} {g : TG} {tc : TT} {te : TE}
theorem lc_loop {pins : List (Addr × Obj)} {σ : St} {H : Hp} {s : Shared} {it C : Addr} {fp : List Addr} {tn : Nat -> Heap -> Prop} {J : It} {cl : List (Str × Addr)} {W : Nat -> Nat -> St -> Hp -> Prop} {Q : V -> Hp -> Prop} {R : Result -> Shared -> Prop} {D : Addr}
  (hc : X.calm = true) (hg : PG (cxC X N' scope cl C s H fp) tg g) (hf : PF (cxC X N' scope cl C s H fp) ifs tc) (he : PE (cxC X N' scope cl C s H fp) elt te)
  (T : Turn X.prog X.w X.K tg J fp it tn) (hfp : ∀ b ∈ fp, FpOk X pins H b) (hstat : ∀ b ∈ fp, b ≠ C /\ b ∉ frs X.stack /\ ∀ x c, cl.lookup x = some c -> c ≠ b)
  (turn : ∀ i m σ H, W i m σ H -> (J.stop i H /\ Q (.ref D) H) \/ (J.go i H /\ ∀ x H', J.yld i H x H' -> g x σ H' fun σ2 H2 => tc σ2 H2 fun b H3 =>
   if b = true then te σ2 H3 fun y H4 => ∃ ys m', H4 D = some (.lst ys) /\ ys.length < sizeLine /\ m' < m /\ W (i + 1) m' σ2 (upd H4 D (.lst (ys ++ [y]))) else ∃ m', m' < m /\ W (i + 1) m' σ2 H3))
  (fin : ∀ σ' H' s', Inv (cxC X N' scope cl C s H fp) [] σ' H' s' -> Q (.ref D) H' -> R (.ok .next) s')
  {m0 : Nat} {σ0 : St} {H0 : Hp} {s0 : Shared} (I0 : Inv (cxC X N' scope cl C s H fp) [] σ0 H0 s0) (t0 : tn 0 s0.heap) (f0 : ∀ b ∈ fp, H0 b = none) (w0 : W 0 m0 σ0 H0) :
  codeAny (model X.prog X.w) X.A (.compLoop (.ListComp elt [⟨tg, iter, ifs, 0⟩] scope pos) 0 (.ref it) (.ref D) (compEnvC scope cl C X.env)) R s0 := by
 have stat : ∀ {H' : Hp}, (∀ b ∈ fp, H' b = none) -> ∀ b ∈ fp, FpOk (cxC X N' scope cl C s H fp) [] H' b := fun hn b hb => ⟨hn b hb, (hstat b hb).1, (hstat b hb).2.1, .inl hb, (hstat b hb).2.2, fun p hp => absurd (show p ∈ ([] : List (Addr × Obj)) from hp) (by simp)⟩
 refine codeAny_loop rfl (fun n s' => ∃ i σ' H', Inv (cxC X N' scope cl C s H fp) [] σ' H' s' /\ tn i s'.heap /\ (∀ b ∈ fp, H' b = none) /\ W i n σ' H') (fun n s3 hI => ?_) m0 ⟨0, σ0, H0, I0, t0, f0, w0⟩
 obtain ⟨i, σ3, H3, I3, st3, fr3, w3⟩ := hI
 show wpAny _ X.A ((compTurn (.ListComp elt [⟨tg, iter, ifs, 0⟩] scope pos) 0 (.ref it) (.ref D) (compEnvC scope cl C X.env)).onRaise (fun x => do noteFrame x (compEnvC scope cl C X.env); theTreesLotGoes x)) _ _ s3
 refine wpAny_noted ?_
 rw [compTurn_list]
 refine wpAny_bind (wpAny_standAt (wpAny_bind ?_))
 rcases turn i n σ3 H3 w3 with ⟨stop, qn⟩ | ⟨go, step⟩
 ·refine thn (T.done (cxC X N' scope cl C s H fp) rfl rfl rfl hc i [] s3 σ3 H3 _ I3 (stat fr3) st3 stop) fun r s4 ⟨hr, I4⟩ => ?_
  subst hr
  exact wpAny_pure (fin σ3 H3 s4 I4 qn)
 ·refine thn (T.item (cxC X N' scope cl C s H fp) rfl rfl rfl hc i [] s3 σ3 H3 _ I3 (stat fr3) st3 go) fun r s4 ⟨u, hr, h4⟩ => ?_
  subst hr
  refine wpAny_bind (thn h4 fun _ s5 ⟨x, H5, I5, r5, y5, st5, fr5⟩ => ?_)
  have I5' := I5.pinned (stat fr5) (T.obj _ _ st5)
  refine wpAny_bind (wpAny_mono (hg _ s5 σ3 H5 x u _ I5' r5 (step x H5 y5)) (fun _ s6 ⟨σ6, H6, I6, q6⟩ => ?_) fun _ _ z => False.elim z)
  refine wpAny_bind (wpAny_mono (hf _ s6 σ6 H6 _ I6 q6) (fun ok s7 ⟨H7, I7, q7⟩ => ?_) fun _ _ z => False.elim z)
  have back : ∀ {H8 : Hp} {s8 : Shared}, Inv (cxC X N' scope cl C s H fp) ([] ++ pinsAt fp s5.heap) σ6 H8 s8 -> (∃ m', m' < n /\ W (i + 1) m' σ6 H8) -> ∃ m, m < n /\ ∃ i σ' H', Inv (cxC X N' scope cl C s H fp) [] σ' H' s8 /\ tn i s8.heap /\ (∀ b ∈ fp, H' b = none) /\ W i m σ' H' := fun {H8 s8} I8 ⟨m', hm, w8⟩ => by
   refine ⟨m', hm, i + 1, σ6, H8, I8.unpinned, T.keep _ _ _ st5 fun b hb o e => (I8.pin (b, o) (List.mem_append_right _ (List.mem_append_right _ (mem_pinsAt hb e)))).1, fun b hb => ?_, w8⟩
   obtain ⟨o, e, d⟩ := T.obj _ _ st5 b hb
   exact (I8.pin (b, o) (List.mem_append_right _ (List.mem_append_right _ (mem_pinsAt hb e)))).2.1
  cases ok with
  | false =>
   rw [if_neg Bool.false_ne_true] at q7
   exact wpAny_pure ⟨rfl, back I7 q7⟩
  | true =>
   rw [if_pos rfl] at q7
   refine wpAny_bind (wpAny_bind (wpAny_mono (he _ s7 σ6 H7 _ I7 q7) (fun uy s8 ⟨y, H8, I8, r8, ys, m', e8, z8, hm, w8⟩ => ?_) fun _ _ z => False.elim z))
   refine wpAny_bind (wpAny_mono (mt_append (X := cxC X N' scope cl C s H fp) _ s8 σ6 H8 (.ref D) [y] (.ref D) [uy] (fun _ H9 => W (i + 1) m' σ6 H9) I8 rfl (.cons r8 .nil) ⟨D, ys, y, rfl, rfl, e8, z8, w8⟩) (fun _ s9 ⟨_, H9, I9, _, q9⟩ => ?_) fun _ _ z => False.elim z)
   exact wpAny_pure (wpAny_pure ⟨rfl, back I9 ⟨m', hm, q9⟩⟩)
theorem lc_block {pins : List (Addr × Obj)} {σ : St} {H : Hp} {s : Shared} {it : Addr} {fp : List Addr} {tn : Nat -> Heap -> Prop} {J : It} {cl : List (Str × Addr)} {Q : V -> Hp -> Prop} {E : Value -> Shared -> Prop} {RR : Value -> Addr -> Result -> Shared -> Prop}
  (S : CScope X N' pick scope) (hc : X.calm = true) (hg : ∀ cl C s H fp, PG (cxC X N' scope cl C s H fp) tg g) (hf : ∀ cl C s H fp, PF (cxC X N' scope cl C s H fp) ifs tc) (he : ∀ cl C s H fp, PE (cxC X N' scope cl C s H fp) elt te)
  (c1 : ∀ x c, cl.lookup x = some c -> (x, NameKind.free) ∈ scope.names /\ X.env.cells.lookup x = some c) (c2 : ∀ x, (x, NameKind.free) ∈ scope.names -> (cl.lookup x).isSome)
  (I : Inv X pins σ H s) (T : Turn X.prog X.w X.K tg J fp it tn) (t0 : tn 0 s.heap) (hfp : ∀ b ∈ fp, FpOk X pins H b)
  (rd : ∀ D, H D = none -> ∃ W : Nat -> Nat -> St -> Hp -> Prop, (∃ m, W 0 m (pickSt pick σ) (upd H D (.lst []))) /\
   ∀ i m σ H, W i m σ H -> (J.stop i H /\ Q (.ref D) H) \/ (J.go i H /\ ∀ x H', J.yld i H x H' -> g x σ H' fun σ2 H2 => tc σ2 H2 fun b H3 =>
    if b = true then te σ2 H3 fun y H4 => ∃ ys m', H4 D = some (.lst ys) /\ ys.length < sizeLine /\ m' < m /\ W (i + 1) m' σ2 (upd H4 D (.lst (ys ++ [y]))) else ∃ m', m' < m /\ W (i + 1) m' σ2 H3))
  (fin : ∀ C D oC H' s', s.heap.objs.size < C -> Inv X (pins ++ [(C, oC)]) σ H' s' -> s'.heap.get? C = some oC -> (∃ m, s'.heap.Ns C m) -> Q (.ref D) H' -> RR (.ref D) C (.ok .next) s') :
  wpAny (model X.prog X.w) X.A (newList []) (fun acc s₃ => wpAny (model X.prog X.w) X.A (newFunctionEnv scope X.env.globals cl [] X.env.qual none .none (some X.env)) (fun cenv s₄ =>
   codeAny (model X.prog X.w) X.A (.compStart (.ListComp elt [⟨tg, iter, ifs, 0⟩] scope pos) 0 (.ref it) acc { cenv with scope := relabel scope X.env }) (RR acc cenv.locals) s₄) E s₃) E s := by
 refine wpAny_newObj_type (wpAny_newFunctionEnv S.nocell (by intro y hy; simp at hy) (fun h₁ hns₁ hsb₁ => ?_) S.kind)
 dsimp only at hns₁ hsb₁ ⊢
 generalize hH2 : s.heap.push { cls := .type "list", dict := none, data := .seq ([] : List Value).toArray } = H2 at hns₁ hsb₁ ⊢
 have hC : H2.objs.size = s.heap.objs.size + 1 := by rw [<- hH2, Heap.size_push]
 have hlt : s.heap.objs.size < H2.objs.size := by rw [hC]; exact Nat.lt_succ_self _
 have old : ∀ b o, s.heap.get? b = some o -> h₁.get? b = some o := fun b o e => hsb₁.extBut b o (Nat.ne_of_lt (Nat.lt_trans (Heap.lt_size e) hlt)) (Heap.get?_push_of_some _ (hH2 ▸ Heap.get?_push_of_some _ e))
 have hacc : h₁.get? s.heap.objs.size = some { cls := .type "list", data := .seq #[] 0 } := hsb₁.extBut _ _ (Nat.ne_of_lt hlt) (Heap.get?_push_of_some _ (hH2 ▸ Heap.get?_push_size _ rfl))
 have hflt : ∀ b ∈ fp, b < s.heap.objs.size := fun b hb => by
  obtain ⟨o, e, _⟩ := T.obj _ _ t0 b hb
  exact Heap.lt_size e
 have hDn : H s.heap.objs.size = none := I.hok.fresh (Nat.le_refl _)
 obtain ⟨W, ⟨m0, w0⟩, turn⟩ := rd s.heap.objs.size hDn
 have I0 := inv_comp (t' := s.toks + ([] : List (Str × Value)).length) S I hfp hflt c1 c2 hlt old hns₁ hacc
 have t1 : tn 0 h₁ := T.keep _ _ _ t0 fun b _ o e => old b o e
 have hst : ∀ b ∈ fp, b ≠ H2.objs.size /\ b ∉ frs X.stack /\ ∀ x c, cl.lookup x = some c -> c ≠ b := fun b hb => I0.ok.exf b hb |> fun q => ⟨q.1, I0.ok.exfs b hb, q.2⟩
 have loop : codeAny (model X.prog X.w) X.A (.compLoop (.ListComp elt [⟨tg, iter, ifs, 0⟩] scope pos) 0 (.ref it) (.ref s.heap.objs.size) (compEnvC scope cl H2.objs.size X.env)) (RR (.ref s.heap.objs.size) H2.objs.size) { s with heap := h₁, toks := s.toks + ([] : List (Str × Value)).length } := by
  refine lc_loop (σ := σ) hc (hg _ _ _ _ _) (hf _ _ _ _ _) (he _ _ _ _ _) T hfp hst turn (fun σ' H' s' I' q => ?_) I0 t1 (fun b hb => ?_) w0
  ·obtain ⟨m, hn, _⟩ := I'.loc
   have hn' : s'.heap.Ns H2.objs.size m := hn
   obtain ⟨oC, es, ep, ho, hr⟩ := id hn'
   exact fin _ _ oC H' s' hlt (inv_uncomp I hfp hlt I' ho) ho ⟨m, hn'⟩ q
  ·show upd H s.heap.objs.size (.lst []) b = none
   rw [upd_ne (Nat.ne_of_lt (hflt b hb))]
   exact (hfp b hb).1
 exact codeAny_compStart_list loop (T.self _ 0 _ _ _ t1 loop)
theorem pe_lc (S : CScope X N' pick scope) (hc : X.calm = true) (hi : PI X tg iter wi) (hg : ∀ cl C s H fp, PG (cxC X N' scope cl C s H fp) tg g) (hf : ∀ cl C s H fp, PF (cxC X N' scope cl C s H fp) ifs tc) (he : ∀ cl C s H fp, PE (cxC X N' scope cl C s H fp) elt te)
  (hs : ∀ x, foldedSetIterable iter X.env x = pure x := by intro _; rfl) : PE X (.ListComp elt [⟨tg, iter, ifs, 0⟩] scope pos) (tLC pick wi g tc te) := by
 intro pins s σ H Q I h
 obtain ⟨cl, hclos, c1, c2⟩ := closure_of (scope := scope) (env := X.env) fun y hy hk => I.ok.has y.1 (S.free y hy hk)
 rw [eval_ListComp]
 refine wpAny_comprehension_free (use := none) rfl hs hclos S.kind S.names (thn (hi pins s σ H _ I h) fun v s1 h1 => thn h1 fun itv s2 h2 => ?_)
 obtain ⟨it, fp, tn, J, H2, e, I2, T, st2, f2, rd⟩ := h2
 subst e
 refine lc_block (RR := fun acc C => compPost (model X.prog X.w) X.A X.xe none (EP X pins σ Q) acc C) S hc hg hf he c1 c2 I2 T st2 f2 rd fun C D oC H' s' hC J' ho hn q => ?_
 obtain ⟨m, hn⟩ := hn
 exact ⟨m, hn, fun h' hs' => ⟨.ref D, H', inv_letgo I2 hC J' hs', rfl, q⟩⟩
end
end L2
namespace L3
open PySem PySem.Spec L2
open PyProof.Rows hiding St
inductive D where
 | non | bl (b : Bool) | int (i : Int) | str (x : Str) | tup (ds : List D) | rol (ds : List D) | ref (a : Addr)
def SqF (K : PySem.W.Frag) (H : Hp) (a : Addr) (xs : List V) : Prop :=
 (∃ o, H a = some (.frz o (.lst xs))) \/
  ∃ (o : Obj) (its : Array Value) (n : Nat), K.lookup a = some o /\ o.cls = .type "list" /\ o.dict = none /\ o.data = .seq its n /\ its.size <= sizeLine /\ Vals xs its.toList
theorem SqF.sq {K : PySem.W.Frag} {H : Hp} {a : Addr} {xs : List V} (h : SqF K H a xs) : SqL K H a xs := by
 rcases h with h | h
 ·exact .inl (.inr h)
 ·exact .inr h
mutual
noncomputable def RepD (K : PySem.W.Frag) (H : Hp) : D -> V -> Prop
 | .non, v => v = .non
 | .bl b, v => v = .bl b
 | .int i, v => v = .int i
 | .str x, v => v = .str x
 | .tup ds, v => ∃ a xs, v = .ref a /\ SqT K H a xs /\ RepDs K H ds xs
 | .rol ds, v => ∃ a xs, v = .ref a /\ SqF K H a xs /\ RepDs K H ds xs
 | .ref a, v => v = .ref a
noncomputable def RepDs (K : PySem.W.Frag) (H : Hp) : List D -> List V -> Prop
 | [], xs => xs = []
 | d :: ds, xs => ∃ x r, xs = x :: r /\ RepD K H d x /\ RepDs K H ds r
end
structure Ext (H H' : Hp) : Prop where
 tup : ∀ b xs, H b = some (.tup xs) -> H' b = some (.tup xs)
 frz : ∀ b o u, H b = some (.frz o u) -> H' b = some (.frz o u)
theorem Ext.refl (H : Hp) : Ext H H := ⟨fun _ _ h => h, fun _ _ _ h => h⟩
theorem Ext.trans {H H1 H2 : Hp} (a : Ext H H1) (b : Ext H1 H2) : Ext H H2 := ⟨fun c xs h => b.tup c xs (a.tup c xs h), fun c o u h => b.frz c o u (a.frz c o u h)⟩
theorem Ext.new {H : Hp} {p : Addr} (h : H p = none) (o : HO) : Ext H (upd H p o) :=
 ⟨fun b xs q => by rw [upd_ne (ne_of_none q h)]; exact q, fun b ob u q => by rw [upd_ne (ne_of_none q h)]; exact q⟩
theorem Ext.lst {H : Hp} {p : Addr} {xs : List V} (h : H p = some (.lst xs)) (o : HO) : Ext H (upd H p o) :=
 ⟨fun b ys q => by rw [upd_ne (ne_of q h (by intro z; cases z))]; exact q, fun b ob u q => by rw [upd_ne (ne_of q h (by intro z; cases z))]; exact q⟩
theorem Ext.sqt {K : PySem.W.Frag} {H H' : Hp} {a : Addr} {xs : List V} (e : Ext H H') (h : SqT K H a xs) : SqT K H' a xs := by
 rcases h with (h | ⟨o, h⟩) | h
 ·exact .inl (.inl (e.tup _ _ h))
 ·exact .inl (.inr ⟨o, e.frz _ _ _ h⟩)
 ·exact .inr h
theorem Ext.sqf {K : PySem.W.Frag} {H H' : Hp} {a : Addr} {xs : List V} (e : Ext H H') (h : SqF K H a xs) : SqF K H' a xs := by
 rcases h with ⟨o, h⟩ | h
 ·exact .inl ⟨o, e.frz _ _ _ h⟩
 ·exact .inr h
section
variable {K : PySem.W.Frag} {H H' : Hp}
mutual
theorem RepD.ext (e : Ext H H') : ∀ (d : D) {v : V}, RepD K H d v -> RepD K H' d v
 | .non, v, h => by simpa only [RepD] using h
 | .bl b, v, h => by simpa only [RepD] using h
 | .int i, v, h => by simpa only [RepD] using h
 | .str x, v, h => by simpa only [RepD] using h
 | .ref a, v, h => by simpa only [RepD] using h
 | .tup ds, v, h => by
  simp only [RepD] at h ⊢
  obtain ⟨a, xs, h1, h2, h3⟩ := h
  exact ⟨a, xs, h1, e.sqt h2, RepDs.ext e ds h3⟩
 | .rol ds, v, h => by
  simp only [RepD] at h ⊢
  obtain ⟨a, xs, h1, h2, h3⟩ := h
  exact ⟨a, xs, h1, e.sqf h2, RepDs.ext e ds h3⟩
theorem RepDs.ext (e : Ext H H') : ∀ (ds : List D) {xs : List V}, RepDs K H ds xs -> RepDs K H' ds xs
 | [], xs, h => by simpa only [RepDs] using h
 | d :: ds, xs, h => by
  simp only [RepDs] at h ⊢
  obtain ⟨x, r, h1, h2, h3⟩ := h
  exact ⟨x, r, h1, RepD.ext e d h2, RepDs.ext e ds h3⟩
end
theorem RepDs.length : ∀ {ds : List D} {xs : List V}, RepDs K H ds xs -> ds.length = xs.length
 | [], xs, h => by simp only [RepDs] at h; subst h; rfl
 | d :: ds, xs, h => by
  simp only [RepDs] at h
  obtain ⟨x, r, h1, _, h3⟩ := h
  subst h1
  simp [RepDs.length h3]
theorem RepDs.get : ∀ {ds : List D} {xs : List V} {i : Nat} {d : D}, RepDs K H ds xs -> ds[i]? = some d -> ∃ x, xs[i]? = some x /\ RepD K H d x
 | [], _, i, d, _, e => by simp at e
 | c :: ds, xs, i, d, h, e => by
  simp only [RepDs] at h
  obtain ⟨x, r, h1, h2, h3⟩ := h
  subst h1
  cases i with
  | zero => simp at e; subst e; exact ⟨x, rfl, h2⟩
  | succ i =>
   obtain ⟨y, e1, e2⟩ := RepDs.get (i := i) h3 (by simpa using e)
   exact ⟨y, by simpa using e1, e2⟩
theorem RepDs.append : ∀ {ds es : List D} {xs ys : List V}, RepDs K H ds xs -> RepDs K H es ys -> RepDs K H (ds ++ es) (xs ++ ys)
 | [], es, xs, ys, h, h' => by simp only [RepDs] at h; subst h; simpa using h'
 | d :: ds, es, xs, ys, h, h' => by
  simp only [RepDs] at h
  obtain ⟨x, r, h1, h2, h3⟩ := h
  subst h1
  show RepDs K H (d :: (ds ++ es)) (x :: (r ++ ys))
  simp only [RepDs]
  exact ⟨x, r ++ ys, rfl, h2, RepDs.append h3 h'⟩
theorem RepDs.nil : RepDs K H [] [] := by simp only [RepDs]
theorem RepDs.cons {d : D} {ds : List D} {x : V} {xs : List V} (h : RepD K H d x) (h' : RepDs K H ds xs) : RepDs K H (d :: ds) (x :: xs) := by
 simp only [RepDs]; exact ⟨x, xs, rfl, h, h'⟩
theorem RepDs.snoc {d : D} {ds : List D} {x : V} {xs : List V} (h' : RepDs K H ds xs) (h : RepD K H d x) : RepDs K H (ds ++ [d]) (xs ++ [x]) := h'.append (.cons h .nil)
theorem RepDs.ints : ∀ {ns : List Int} {xs : List V}, RepDs K H (ns.map D.int) xs -> xs = ns.map V.int
 | [], xs, h => by simpa only [List.map_nil, RepDs] using h
 | n :: ns, xs, h => by
  rw [List.map_cons] at h
  simp only [RepDs, RepD] at h
  obtain ⟨x, r, h1, h2, h3⟩ := h
  subst h1 h2
  rw [List.map_cons, RepDs.ints h3]
theorem RepDs.of_ints : ∀ (ns : List Int), RepDs K H (ns.map D.int) (ns.map V.int)
 | [] => .nil
 | n :: ns => .cons (by simp only [RepD]) (RepDs.of_ints ns)
theorem RepDs.bools : ∀ {ns : List Bool} {xs : List V}, RepDs K H (ns.map D.bl) xs -> xs = ns.map V.bl
 | [], xs, h => by simpa only [List.map_nil, RepDs] using h
 | n :: ns, xs, h => by
  rw [List.map_cons] at h
  simp only [RepDs, RepD] at h
  obtain ⟨x, r, h1, h2, h3⟩ := h
  subst h1 h2
  rw [List.map_cons, RepDs.bools h3]
end
inductive O where
 | lst (ds : List D)
 | dct (kvs : List (Key × D))
abbrev SS := Addr -> Option O
def RepKV (K : PySem.W.Frag) (H : Hp) : List (Key × D) -> List (Key × V) -> Prop := Paired fun p q => p.1 = q.1 /\ RepD K H p.2 q.2
noncomputable def RepO (K : PySem.W.Frag) (H : Hp) (a : Addr) : O -> Prop
 | .lst ds => ∃ xs, H a = some (.lst xs) /\ RepDs K H ds xs
 | .dct kvs => ∃ vs, H a = some (.dK vs) /\ RepKV K H kvs vs
def RepH (K : PySem.W.Frag) (H : Hp) (S : SS) : Prop := ∀ a o, S a = some o -> RepO K H a o
noncomputable def ups (S : SS) (a : Addr) (o : O) : SS := fun b => if b = a then some o else S b
theorem ups_same {S : SS} {a : Addr} {o : O} : ups S a o a = some o := by unfold ups; rw [if_pos rfl]
theorem ups_ne {S : SS} {a b : Addr} {o : O} (h : b ≠ a) : ups S a o b = S b := by unfold ups; rw [if_neg h]
def Sx (S S' : SS) : Prop := ∀ b o, S b = some o -> S' b = some o
theorem Sx.refl (S : SS) : Sx S S := fun _ _ h => h
theorem Sx.trans {S S1 S2 : SS} (a : Sx S S1) (b : Sx S1 S2) : Sx S S2 := fun c o h => b c o (a c o h)
theorem Sx.new {S : SS} {p : Addr} (h : S p = none) (o : O) : Sx S (ups S p o) := fun b u q => by
 rw [ups_ne (by intro z; subst z; rw [h] at q; cases q)]; exact q
theorem Sx.none {S S' : SS} (e : Sx S S') {p : Addr} (h : S' p = Option.none) : S p = Option.none := by
 cases q : S p with
 | none => rfl
 | some o => rw [e p o q] at h; cases h
section
variable {K : PySem.W.Frag} {H H' : Hp} {S : SS}
theorem RepO.has {a : Addr} {o : O} (h : RepO K H a o) : H a ≠ none := by
 cases o with
 | lst ds => obtain ⟨xs, h, _⟩ := h; rw [h]; simp
 | dct kvs => obtain ⟨xs, h, _⟩ := h; rw [h]; simp
theorem RepH.none (r : RepH K H S) {p : Addr} (h : H p = Option.none) : S p = Option.none := by
 cases q : S p with
 | none => rfl
 | some o => exact absurd h (r p o q).has
theorem RepKV.ext (e : Ext H H') {kvs : List (Key × D)} {vs : List (Key × V)} (h : RepKV K H kvs vs) : RepKV K H' kvs vs :=
 Paired.mapP h fun p q z => ⟨z.1, RepD.ext e p.2 z.2⟩
theorem RepO.keep {a : Addr} {o : O} (e : Ext H H') (k : ∀ u, H a = some u -> H' a = some u) (h : RepO K H a o) : RepO K H' a o := by
 cases o with
 | lst ds => obtain ⟨xs, h1, h2⟩ := h; exact ⟨xs, k _ h1, RepDs.ext e ds h2⟩
 | dct kvs => obtain ⟨xs, h1, h2⟩ := h; exact ⟨xs, k _ h1, h2.ext e⟩
theorem RepH.keep (e : Ext H H') (k : ∀ a u o, S a = some o -> H a = some u -> H' a = some u) (r : RepH K H S) : RepH K H' S := fun a o h => (r a o h).keep e fun u q => k a u o h q
theorem RepH.new {p : Addr} {u : HO} (hp : H p = Option.none) (r : RepH K H S) : RepH K (upd H p u) S :=
 r.keep (Ext.new hp u) fun a v o _ q => by rw [upd_ne (ne_of_none q hp)]; exact q
theorem RepH.ups {p : Addr} {u : HO} {o : O} (e : Ext H (upd H p u)) (hn : RepO K (upd H p u) p o) (r : RepH K H S) : RepH K (upd H p u) (ups S p o) := fun a o' h => by
 by_cases ha : a = p
 ·subst ha; rw [ups_same] at h; cases h; exact hn
 ·rw [ups_ne ha] at h
  exact (r a o' h).keep e fun v q => by rw [upd_ne ha]; exact q
end
abbrev StD := List (Option D)
def RepSt (K : PySem.W.Frag) (H : Hp) (δ : StD) (σ : St) : Prop := δ.length = σ.length /\ ∀ (i : Nat) (d : D), δ[i]? = some (some d) -> ∃ v, σ[i]? = some (some v) /\ RepD K H d v
theorem RepSt.ext {K : PySem.W.Frag} {H H' : Hp} {δ : StD} {σ : St} (e : Ext H H') (r : RepSt K H δ σ) : RepSt K H' δ σ := ⟨r.1, fun i d h => by
 obtain ⟨v, h1, h2⟩ := r.2 i d h
 exact ⟨v, h1, RepD.ext e d h2⟩⟩
theorem RepSt.set {K : PySem.W.Frag} {H : Hp} {δ : StD} {σ : St} (i : Nat) {d : D} {v : V} (r : RepSt K H δ σ) (h : RepD K H d v) : RepSt K H (δ.set i (some d)) (σ.set i (some v)) := by
 refine ⟨by rw [List.length_set, List.length_set]; exact r.1, fun j c hc => ?_⟩
 rw [List.getElem?_set] at hc ⊢
 by_cases hj : i = j
 ·subst hj
  rw [if_pos rfl] at hc ⊢
  by_cases hl : i < δ.length
  ·rw [if_pos hl] at hc
   rw [if_pos (by rw [<- r.1]; exact hl)]
   cases hc
   exact ⟨v, rfl, h⟩
  ·rw [if_neg hl] at hc; cases hc
 ·rw [if_neg hj] at hc ⊢
  exact r.2 j c hc
abbrev DK := D -> SS -> Prop
abbrev TDE := StD -> SS -> DK -> Prop
abbrev TDT := StD -> SS -> (Bool -> SS -> Prop) -> Prop
abbrev TDA := StD -> SS -> (List D -> SS -> Prop) -> Prop
def MoE (t : TDE) : Prop := ∀ δ S (Q Q' : DK), (∀ d S', Q d S' -> Q' d S') -> t δ S Q -> t δ S Q'
def MoT (t : TDT) : Prop := ∀ δ S (Q Q' : Bool -> SS -> Prop), (∀ d S', Q d S' -> Q' d S') -> t δ S Q -> t δ S Q'
def MoA (t : TDA) : Prop := ∀ δ S (Q Q' : List D -> SS -> Prop), (∀ d S', Q d S' -> Q' d S') -> t δ S Q -> t δ S Q'
noncomputable def dnK (K : PySem.W.Frag) (H : Hp) (Q : VK) : DK := fun d S' => ∀ v H', RepD K H' d v -> Ext H H' -> RepH K H' S' -> Q v H'
def dnB (K : PySem.W.Frag) (H : Hp) (Q : Bool -> Hp -> Prop) : Bool -> SS -> Prop := fun b S' => ∀ H', Ext H H' -> RepH K H' S' -> Q b H'
def dnL (K : PySem.W.Frag) (H : Hp) (Q : List V -> Hp -> Prop) : List D -> SS -> Prop := fun ds S' => ∀ vs H', RepDs K H' ds vs -> Ext H H' -> RepH K H' S' -> Q vs H'
def dnS (K : PySem.W.Frag) (H : Hp) (Q : St -> Hp -> Prop) : StD -> SS -> Prop := fun δ S' => ∀ σ H', RepSt K H' δ σ -> Ext H H' -> RepH K H' S' -> Q σ H'
theorem dnK.ext {K : PySem.W.Frag} {H H' : Hp} {Q : VK} (e : Ext H H') {d : D} {S : SS} (h : dnK K H Q d S) : dnK K H' Q d S := fun v H2 r x q => h v H2 r (e.trans x) q
theorem dnB.ext {K : PySem.W.Frag} {H H' : Hp} {Q : Bool -> Hp -> Prop} (e : Ext H H') {d : Bool} {S : SS} (h : dnB K H Q d S) : dnB K H' Q d S := fun H2 x q => h H2 (e.trans x) q
theorem dnS.ext {K : PySem.W.Frag} {H H' : Hp} {Q : St -> Hp -> Prop} (e : Ext H H') {d : StD} {S : SS} (h : dnS K H Q d S) : dnS K H' Q d S := fun v H2 r x q => h v H2 r (e.trans x) q
def upE (K : PySem.W.Frag) (t : TDE) : TE := fun σ H Q => ∃ δ S, RepSt K H δ σ /\ RepH K H S /\ t δ S (dnK K H Q)
def upT (K : PySem.W.Frag) (t : TDT) : TT := fun σ H Q => ∃ δ S, RepSt K H δ σ /\ RepH K H S /\ t δ S (dnB K H Q)
def upA (K : PySem.W.Frag) (t : TDA) : TA := fun σ H Q => ∃ δ S, RepSt K H δ σ /\ RepH K H S /\ t δ S (dnL K H Q)
structure PD (X : Cx) (e : Expr) (t : TDE) : Prop where
 mo : MoE t
 pe : PE X e (upE X.K t)
structure PDT (X : Cx) (e : Expr) (t : TDT) : Prop where
 mo : MoT t
 pt : PT X e (upT X.K t)
structure PDA (X : Cx) (es : List Expr) (t : TDA) : Prop where
 mo : MoA t
 pa : PA X es (upA X.K t)
theorem PE.imp {X : Cx} {e : Expr} {t t' : TE} (h : PE X e t) (hi : ∀ σ H Q, t' σ H Q -> t σ H Q) : PE X e t' := fun pins s σ H Q I q => h pins s σ H Q I (hi σ H Q q)
theorem PT.imp {X : Cx} {e : Expr} {t t' : TT} (h : PT X e t) (hi : ∀ σ H Q, t' σ H Q -> t σ H Q) : PT X e t' := fun pins s σ H Q I q => h pins s σ H Q I (hi σ H Q q)
theorem PA.imp {X : Cx} {e : List Expr} {t t' : TA} (h : PA X e t) (hi : ∀ σ H Q, t' σ H Q -> t σ H Q) : PA X e t' := fun pos pins s σ H Q I q => h pos pins s σ H Q I (hi σ H Q q)
theorem PS.imp {X : Cx} {e : Stmt} {t t' : TS} (h : PS X e t) (hi : ∀ D σ H, t' D σ H -> t D σ H) : PS X e t' := fun pins s σ H Q I q => h pins s σ H Q I (hi Q σ H q)
theorem PSs.imp {X : Cx} {e : List Stmt} {t t' : TS} (h : PSs X e t) (hi : ∀ D σ H, t' D σ H -> t D σ H) : PSs X e t' := fun pins s σ H Q I q => h pins s σ H Q I (hi Q σ H q)
section
variable {X : Cx} {K : PySem.W.Frag}
theorem upE.go {t : TDE} {σ : St} {H : Hp} {Q : VK} {δ : StD} {S : SS} {R : DK} (mo : MoE t) (r1 : RepSt K H δ σ) (r2 : RepH K H S) (h : t δ S R) (k : ∀ d S' v H', R d S' -> RepD K H' d v -> Ext H H' -> RepH K H' S' -> Q v H') : upE K t σ H Q :=
 ⟨δ, S, r1, r2, mo δ S _ _ (fun d S' q v H' a b c => k d S' v H' q a b c) h⟩
theorem upT.go {t : TDT} {σ : St} {H : Hp} {Q : Bool -> Hp -> Prop} {δ : StD} {S : SS} {R : Bool -> SS -> Prop} (mo : MoT t) (r1 : RepSt K H δ σ) (r2 : RepH K H S) (h : t δ S R) (k : ∀ d S' H', R d S' -> Ext H H' -> RepH K H' S' -> Q d H') : upT K t σ H Q :=
 ⟨δ, S, r1, r2, mo δ S _ _ (fun d S' q H' b c => k d S' H' q b c) h⟩
theorem upA.go {t : TDA} {σ : St} {H : Hp} {Q : List V -> Hp -> Prop} {δ : StD} {S : SS} {R : List D -> SS -> Prop} (mo : MoA t) (r1 : RepSt K H δ σ) (r2 : RepH K H S) (h : t δ S R) (k : ∀ d S' v H', R d S' -> RepDs K H' d v -> Ext H H' -> RepH K H' S' -> Q v H') : upA K t σ H Q :=
 ⟨δ, S, r1, r2, mo δ S _ _ (fun d S' q v H' a b c => k d S' v H' q a b c) h⟩
def dVar (i : Nat) : TDE := fun δ S Q => match δ[i]? with
 | some (some d) => Q d S
 | _ => False
def dC (d : D) : TDE := fun _ S Q => Q d S
theorem pd_var (i : Nat) {x : Str} {pos : Pos} (h : PE X (.Name x pos) (tVar i)) : PD X (.Name x pos) (dVar i) := by
 refine ⟨fun δ S Q Q' hq h => ?_, PE.imp h fun σ H Q hu => ?_⟩
 ·unfold dVar at h ⊢
  split at h
  ·exact hq _ _ h
  ·exact h
 ·obtain ⟨δ, S, r1, r2, h⟩ := hu
  unfold dVar at h
  split at h
  ·rename_i d e
   obtain ⟨v, h1, h2⟩ := r1.2 i d e
   exact ⟨v, h1, h v H h2 (Ext.refl H) r2⟩
  ·exact h.elim
theorem dC.mo (d : D) : MoE (dC d) := fun _ _ _ _ hq h => hq _ _ h
theorem pd_const {e : Expr} {d : D} {v : V} (h : PE X e (tC v)) (r : ∀ H, RepD X.K H d v) : PD X e (dC d) :=
 ⟨dC.mo d, PE.imp h fun _ H _ ⟨_, _, _, r2, h⟩ => h v H (r H) (Ext.refl H) r2⟩
theorem pd_int {i j pos} : PD X (.Constant (.int i) j pos) (dC (.int i)) := pd_const pe_int fun _ => by simp only [RepD]
theorem pd_bl {i j pos} : PD X (.Constant (.bool i) j pos) (dC (.bl i)) := pd_const pe_bl fun _ => by simp only [RepD]
abbrev RD2 := D -> D -> SS -> DK -> Prop
def MoR (f : RD2) : Prop := ∀ x y S (Q Q' : DK), (∀ d S', Q d S' -> Q' d S') -> f x y S Q -> f x y S Q'
def Fits2 (K : PySem.W.Frag) (f : RD2) (r : R2) : Prop := ∀ x y d e H S Q, RepD K H d x -> RepD K H e y -> RepH K H S -> f d e S (dnK K H Q) -> r x y H Q
def dOp (f : RD2) (ta tb : TDE) : TDE := fun δ S Q => ta δ S fun x S1 => tb δ S1 fun y S2 => f x y S2 Q
theorem dOp.mo {f : RD2} {ta tb : TDE} (hf : MoR f) (ha : MoE ta) (hb : MoE tb) : MoE (dOp f ta tb) := fun δ S Q Q' hq h =>
 ha δ S _ _ (fun x S1 h => hb δ S1 _ _ (fun y S2 h => hf x y S2 _ _ hq h) h) h
theorem upOp {f : RD2} {r : R2} {ta tb : TDE} (hr : Fits2 K f r) (hf : MoR f) (ha : MoE ta) (hb : MoE tb) {σ : St} {H : Hp} {Q : VK} (h : upE K (dOp f ta tb) σ H Q) : tOp r (upE K ta) (upE K tb) σ H Q := by
 obtain ⟨δ, S, r1, r2, h⟩ := h
 refine upE.go ha r1 r2 h fun x S1 v H1 h1 q1 e1 p1 => ?_
 refine upE.go hb (r1.ext e1) p1 h1 fun y S2 w H2 h2 q2 e2 p2 => ?_
 exact hr v w x y H2 S2 Q (RepD.ext e2 x q1) q2 p2 (hf x y S2 _ _ (fun d S' z => z.ext (e1.trans e2)) h2)
theorem pd_op {a b : Expr} {op : Operator} {pos : Pos} {f : RD2} {r : R2} {ta tb : TDE} (ho : OpR X (binaryOp op) r) (hr : Fits2 X.K f r) (hf : MoR f) (ha : PD X a ta) (hb : PD X b tb) : PD X (.BinOp a op b pos) (dOp f ta tb) :=
 ⟨dOp.mo hf ha.mo hb.mo, PE.imp (pe_op ho ha.pe hb.pe) fun _ _ _ h => upOp hr hf ha.mo hb.mo h⟩
theorem pd_cmp {a b : Expr} {op : CmpOp} {pos : Pos} {f : RD2} {r : R2} {ta tb : TDE} (ho : OpR X (compareOp op) r) (hr : Fits2 X.K f r) (hf : MoR f) (ha : PD X a ta) (hb : PD X b tb) (hm : behindInMarks op b = false) : PD X (.Compare a [op] [b] pos) (dOp f ta tb) :=
 ⟨dOp.mo hf ha.mo hb.mo, PE.imp (pe_cmpR ho ha.pe hb.pe hm) fun _ _ _ h => upOp hr hf ha.mo hb.mo h⟩
def dTest (t : TDE) : TDT := fun δ S Q => t δ S fun x S1 => match x with
 | .bl b => Q b S1
 | _ => False
theorem dTest.mo {t : TDE} (h : MoE t) : MoT (dTest t) := fun δ S Q Q' hq q => h δ S _ _ (fun d S' z => by
 cases d <;> first
  | exact hq _ _ z
  | exact z) q
theorem pdt_cmp {a b : Expr} {op : CmpOp} {pos : Pos} {f : RD2} {r : R2} {ta tb : TDE} (ho : OpR X (compareOp op) r) (hr : Fits2 X.K f r) (hf : MoR f) (ha : PD X a ta) (hb : PD X b tb) (hm : behindInMarks op b = false) : PDT X (.Compare a [op] [b] pos) (dTest (dOp f ta tb)) := by
 refine ⟨dTest.mo (dOp.mo hf ha.mo hb.mo), PT.imp (pt_cmpR ho ha.pe hb.pe hm) fun σ H Q h => ?_⟩
 obtain ⟨δ, S, r1, r2, h⟩ := h
 refine upOp hr hf ha.mo hb.mo ⟨δ, S, r1, r2, dOp.mo hf ha.mo hb.mo δ S _ _ (fun d S' z v H' a b c => ?_) h⟩
 cases d with
 | bl k => simp only [RepD] at a; exact ⟨k, a, z H' b c⟩
 | non => exact z.elim
 | int _ => exact z.elim
 | str _ => exact z.elim
 | tup _ => exact z.elim
 | rol _ => exact z.elim
 | ref _ => exact z.elim
def fI (C : Int -> Int -> Prop) (g : Int -> Int -> D) : RD2 := fun x y S Q => match x, y with
 | .int i, .int j => C i j /\ Q (g i j) S
 | _, _ => False
theorem fI.mo {C : Int -> Int -> Prop} {g : Int -> Int -> D} : MoR (fI C g) := fun x y S Q Q' hq h => by
 unfold fI at h ⊢
 split at h
 ·exact ⟨h.1, hq _ _ h.2⟩
 ·exact h.elim
def fI0 (g : Int -> Int -> D) : RD2 := fun x y S Q => match x, y with
 | .int i, .int j => Q (g i j) S
 | _, _ => False
theorem fI0.mo {g : Int -> Int -> D} : MoR (fI0 g) := fun x y S Q Q' hq h => by
 unfold fI0 at h ⊢
 split at h
 ·exact hq _ _ h
 ·exact h.elim
theorem fI.fits {C : Int -> Int -> Prop} {g : Int -> Int -> D} {g' : Int -> Int -> V} (hg : ∀ i j H, RepD K H (g i j) (g' i j)) : Fits2 K (fI C g) (rI C g') := fun x y d e H S Q h1 h2 h3 h => by
 unfold fI at h
 split at h
 ·simp only [RepD] at h1 h2
  exact ⟨_, _, h1, h2, h.1, h.2 _ H (hg _ _ H) (Ext.refl H) h3⟩
 ·exact h.elim
theorem fI0.fits {g : Int -> Int -> D} {g' : Int -> Int -> V} (hg : ∀ i j H, RepD K H (g i j) (g' i j)) : Fits2 K (fI0 g) (rI0 g') := fun x y d e H S Q h1 h2 h3 h => by
 unfold fI0 at h
 split at h
 ·simp only [RepD] at h1 h2
  exact ⟨_, _, h1, h2, h _ H (hg _ _ H) (Ext.refl H) h3⟩
 ·exact h.elim
variable {a b c : Expr} {ta tb tc : TDE} {pos : Pos}
theorem pd_sub (ha : PD X a ta) (hb : PD X b tb) : PD X (.BinOp a .Sub b pos) (dOp (fI0 fun i j => .int (i - j)) ta tb) := pd_op op_sub (fI0.fits fun _ _ _ => by simp only [RepD]) fI0.mo ha hb
theorem pd_mod (ha : PD X a ta) (hb : PD X b tb) : PD X (.BinOp a .Mod b pos) (dOp (fI (fun _ j => 0 < j) fun i j => .int (i % j)) ta tb) := pd_op op_mod (fI.fits fun _ _ _ => by simp only [RepD]) fI.mo ha hb
theorem pd_fdiv (ha : PD X a ta) (hb : PD X b tb) : PD X (.BinOp a .FloorDiv b pos) (dOp (fI CDiv fun i j => .int (i / j)) ta tb) := pd_op op_fdiv (fI.fits fun _ _ _ => by simp only [RepD]) fI.mo ha hb
theorem pd_pow (ha : PD X a ta) (hb : PD X b tb) : PD X (.BinOp a .Pow b pos) (dOp (fI CPow fun i j => .int (i ^ j.toNat)) ta tb) := pd_op op_pow (fI.fits fun _ _ _ => by simp only [RepD]) fI.mo ha hb
abbrev fLe : RD2 := fI0 fun i j => .bl (decide (i <= j))
abbrev fGe : RD2 := fI0 fun i j => .bl (decide (j <= i))
theorem fit_le : Fits2 K fLe (rI0 fun i j => .bl (decide (i <= j))) := fI0.fits fun _ _ _ => by simp only [RepD]
theorem fit_ge : Fits2 K fGe (rI0 fun i j => .bl (decide (j <= i))) := fI0.fits fun _ _ _ => by simp only [RepD]
theorem pdt_le (ha : PD X a ta) (hb : PD X b tb) : PDT X (.Compare a [.LtE] [b] pos) (dTest (dOp fLe ta tb)) := pdt_cmp op_le fit_le fI0.mo ha hb (nomark _)
theorem pdt_ge (ha : PD X a ta) (hb : PD X b tb) : PDT X (.Compare a [.GtE] [b] pos) (dTest (dOp fGe ta tb)) := pdt_cmp op_ge fit_ge fI0.mo ha hb (nomark _)
end
end L3
namespace L3
open PySem PySem.Spec L2
open PyProof.Rows hiding St
section
variable {X : Cx} {K : PySem.W.Frag} {a b c : Expr} {ta tb tc : TDE} {pos : Pos}
def dAnd (ta tb : TDE) : TDE := fun δ S Q => ta δ S fun x S1 => match x with
 | .bl k => if k = true then tb δ S1 Q else Q (.bl false) S1
 | _ => False
def dNot (ta : TDE) : TDE := fun δ S Q => ta δ S fun x S1 => match x with
 | .bl k => Q (.bl (!k)) S1
 | _ => False
theorem ite_imp {c : Prop} [Decidable c] {A B A' B' : Prop} (h1 : A -> A') (h2 : B -> B') (h : if c then A else B) : if c then A' else B' := by
 by_cases q : c
 ·rw [if_pos q] at h ⊢; exact h1 h
 ·rw [if_neg q] at h ⊢; exact h2 h
theorem dAnd.mo (ha : MoE ta) (hb : MoE tb) : MoE (dAnd ta tb) := fun δ S Q Q' hq h => ha δ S _ _ (fun x S1 z => by
 cases x <;> first
  | exact ite_imp (hb δ S1 _ _ hq) (hq _ _) z
  | exact z) h
theorem dNot.mo (ha : MoE ta) : MoE (dNot ta) := fun δ S Q Q' hq h => ha δ S _ _ (fun x S1 z => by
 cases x <;> first
  | exact hq _ _ z
  | exact z) h
theorem pd_one {op} {t : TDE} (h : PD X a t) : PD X (.BoolOp op [a] pos) t := ⟨h.mo, pe_one h.pe⟩
variable {rest : List Expr}
theorem pd_and (ha : PD X a ta) (hb : PD X (.BoolOp .And (b :: rest) pos) tb) : PD X (.BoolOp .And (a :: b :: rest) pos) (dAnd ta tb) := by
 refine ⟨dAnd.mo ha.mo hb.mo, PE.imp (pe_and ha.pe hb.pe) fun σ H Q hu => ?_⟩
 obtain ⟨δ, S, r1, r2, h⟩ := hu
 refine upE.go ha.mo r1 r2 h fun x S1 v H1 h1 q1 e1 p1 => ?_
 cases x with
 | bl k =>
  simp only [RepD] at q1
  refine ⟨k, q1, ite_imp (fun z => ?_) (fun z => ?_) h1⟩
  ·exact upE.go hb.mo (r1.ext e1) p1 z fun y S2 w H2 h2 q2 e2 p2 => h2 w H2 q2 (e1.trans e2) p2
  ·exact z _ H1 (by simp only [RepD]) e1 p1
 | non => exact h1.elim
 | int _ => exact h1.elim
 | str _ => exact h1.elim
 | tup _ => exact h1.elim
 | rol _ => exact h1.elim
 | ref _ => exact h1.elim
theorem pd_not (ha : PD X a ta) : PD X (.UnaryOp .Not a pos) (dNot ta) := by
 refine ⟨dNot.mo ha.mo, PE.imp (pe_not ha.pe) fun σ H Q hu => ?_⟩
 obtain ⟨δ, S, r1, r2, h⟩ := hu
 refine upE.go ha.mo r1 r2 h fun x S1 v H1 h1 q1 e1 p1 => ?_
 cases x with
 | bl k =>
  simp only [RepD] at q1
  exact ⟨k, q1, h1 _ H1 (by simp only [RepD]) e1 p1⟩
 | non => exact h1.elim
 | int _ => exact h1.elim
 | str _ => exact h1.elim
 | tup _ => exact h1.elim
 | rol _ => exact h1.elim
 | ref _ => exact h1.elim
def eAnd (t u : TDT) : TDT := fun δ S Q => t δ S fun k S1 => if k = true then u δ S1 Q else Q false S1
def eOr (t u : TDT) : TDT := fun δ S Q => t δ S fun k S1 => if k = true then Q true S1 else u δ S1 Q
def eNot (t : TDT) : TDT := fun δ S Q => t δ S fun k S1 => Q (!k) S1
variable {t u : TDT}
theorem eAnd.mo (h : MoT t) (h' : MoT u) : MoT (eAnd t u) := fun δ S _ _ hq z => h δ S _ _ (fun k S1 z => ite_imp (h' δ S1 _ _ hq) (hq _ _) z) z
theorem eOr.mo (h : MoT t) (h' : MoT u) : MoT (eOr t u) := fun δ S _ _ hq z => h δ S _ _ (fun k S1 z => ite_imp (hq _ _) (h' δ S1 _ _ hq) z) z
theorem eNot.mo (h : MoT t) : MoT (eNot t) := fun δ S _ _ hq z => h δ S _ _ (fun k S1 z => hq _ _ z) z
structure PDW (X : Cx) (e : Expr) (t : TDT) : Prop where
 mo : MoT t
 pw : PW X e (upT X.K t)
theorem PW.imp {e : Expr} {t t' : TT} (h : PW X e t) (hi : ∀ σ H Q, t' σ H Q -> t σ H Q) : PW X e t' := fun whole pins s σ H Q I q => h whole pins s σ H Q I (hi σ H Q q)
theorem PDW.pt {e : Expr} {t : TDT} (h : PDW X e t) : PDT X e t := ⟨h.mo, PW.pt h.pw⟩
theorem pdw_and1 (h : PDT X a t) : PDW X (.BoolOp .And [a] pos) t := ⟨h.mo, pw_and1 h.pt⟩
theorem pdw_or1 (h : PDT X a t) : PDW X (.BoolOp .Or [a] pos) t := ⟨h.mo, pw_or1 h.pt⟩
theorem pdw_and (ha : PDT X a t) (hb : PDW X (.BoolOp .And (b :: rest) pos) u) : PDW X (.BoolOp .And (a :: b :: rest) pos) (eAnd t u) := by
 refine ⟨eAnd.mo ha.mo hb.mo, PW.imp (pw_and ha.pt hb.pw) fun σ H Q hu => ?_⟩
 obtain ⟨δ, S, r1, r2, h⟩ := hu
 refine upT.go ha.mo r1 r2 h fun k S1 H1 h1 e1 p1 => ite_imp (fun z => ?_) (fun z => z H1 e1 p1) h1
 exact upT.go hb.mo (r1.ext e1) p1 z fun y S2 H2 h2 e2 p2 => h2 H2 (e1.trans e2) p2
theorem pdw_or (ha : PDT X a t) (hb : PDW X (.BoolOp .Or (b :: rest) pos) u) : PDW X (.BoolOp .Or (a :: b :: rest) pos) (eOr t u) := by
 refine ⟨eOr.mo ha.mo hb.mo, PW.imp (pw_or ha.pt hb.pw) fun σ H Q hu => ?_⟩
 obtain ⟨δ, S, r1, r2, h⟩ := hu
 refine upT.go ha.mo r1 r2 h fun k S1 H1 h1 e1 p1 => ite_imp (fun z => z H1 e1 p1) (fun z => ?_) h1
 exact upT.go hb.mo (r1.ext e1) p1 z fun y S2 H2 h2 e2 p2 => h2 H2 (e1.trans e2) p2
theorem pdt_not (ha : PDT X a t) : PDT X (.UnaryOp .Not a pos) (eNot t) := by
 refine ⟨eNot.mo ha.mo, PT.imp (pt_not ha.pt) fun σ H Q hu => ?_⟩
 obtain ⟨δ, S, r1, r2, h⟩ := hu
 exact upT.go ha.mo r1 r2 h fun k S1 H1 h1 e1 p1 => h1 H1 e1 p1
def tru (d : D) (S : SS) (Q : Bool -> SS -> Prop) : Prop := match d with
 | .non => Q false S
 | .bl k => Q k S
 | .int i => Q (i != 0) S
 | .str x => x.length <= sizeLine /\ Q ((x.length : Int) != 0) S
 | .tup ds => Q (!ds.isEmpty) S
 | .rol ds => Q (!ds.isEmpty) S
 | .ref p => match S p with
  | some (.lst ds) => Q (!ds.isEmpty) S
  | some (.dct kvs) => Q (!kvs.isEmpty) S
  | none => False
def eTru (ta : TDE) : TDT := fun δ S Q => ta δ S fun x S1 => tru x S1 Q
theorem tru.mo {d : D} {S : SS} {Q Q' : Bool -> SS -> Prop} (hq : ∀ k S', Q k S' -> Q' k S') (h : tru d S Q) : tru d S Q' := by
 cases d with
 | str x => exact ⟨h.1, hq _ _ h.2⟩
 | ref p =>
  unfold tru at h ⊢
  dsimp only at h ⊢
  split at h
  ·exact hq _ _ h
  ·exact hq _ _ h
  ·exact h
 | _ => exact hq _ _ h
theorem RepDs.isEmpty {H : Hp} {ds : List D} {xs : List V} (h : RepDs K H ds xs) : ds.isEmpty = xs.isEmpty := by
 have := h.length
 cases ds <;> cases xs <;> simp_all
theorem Paired_isEmpty {α β : Type} {F : α -> β -> Prop} {xs : List α} {ys : List β} (h : Paired F xs ys) : xs.isEmpty = ys.isEmpty := by cases h <;> rfl
theorem tru.fits {H : Hp} {d : D} {v : V} {S : SS} {Q : Bool -> Hp -> Prop} (r : RepD K H d v) (p : RepH K H S) (h : tru d S (dnB K H Q)) : ∃ k, TruV K v H k /\ Q k H := by
 cases d with
 | non => simp only [RepD] at r; subst r; exact ⟨false, rfl, h H (.refl H) p⟩
 | bl k => simp only [RepD] at r; subst r; exact ⟨k, rfl, h H (.refl H) p⟩
 | int i => simp only [RepD] at r; subst r; exact ⟨_, rfl, h H (.refl H) p⟩
 | str x => simp only [RepD] at r; subst r; exact ⟨_, ⟨h.1, rfl⟩, h.2 H (.refl H) p⟩
 | tup ds =>
  simp only [RepD] at r
  obtain ⟨a, xs, rfl, r1, r2⟩ := r
  exact ⟨_, .inr (.inl ⟨xs, r1, by rw [r2.isEmpty]⟩), h H (.refl H) p⟩
 | rol ds =>
  simp only [RepD] at r
  obtain ⟨a, xs, rfl, r1, r2⟩ := r
  exact ⟨_, .inl ⟨xs, r1.sq, by rw [r2.isEmpty]⟩, h H (.refl H) p⟩
 | ref a =>
  simp only [RepD] at r
  subst r
  unfold tru at h
  dsimp only at h
  split at h
  ·rename_i ds e
   obtain ⟨xs, e1, r2⟩ := p a _ e
   exact ⟨_, .inl ⟨xs, SqL.of e1, by rw [r2.isEmpty]⟩, h H (.refl H) p⟩
  ·rename_i kvs e
   obtain ⟨xs, e1, r2⟩ := p a _ e
   exact ⟨_, .inr (.inr ⟨xs, e1, by rw [Paired_isEmpty r2]⟩), h H (.refl H) p⟩
  ·exact h.elim
theorem pdt_tru (ha : PD X a ta) (he : ∀ whole, isTrue a X.env whole = (do let v <- whole; standAt a.pos; holding [v] (truthy v)) := by intro _; rfl) : PDT X a (eTru ta) := by
 refine ⟨fun δ S Q Q' hq h => ha.mo δ S _ _ (fun x S1 z => tru.mo hq z) h, PT.imp (pt_truth ha.pe he) fun σ H Q hu => ?_⟩
 obtain ⟨δ, S, r1, r2, h⟩ := hu
 refine upE.go ha.mo r1 r2 h fun x S1 v H1 h1 q1 e1 p1 => ?_
 exact tru.fits q1 p1 (tru.mo (fun k S' z => z.ext e1) h1)
def dNil : TDA := fun _ S Q => Q [] S
def dCons (te : TDE) (tr : TDA) : TDA := fun δ S Q => te δ S fun x S1 => tr δ S1 fun xs S2 => Q (x :: xs) S2
variable {e : Expr} {es : List Expr} {te : TDE} {tA : TDA}
theorem dCons.mo (h : MoE te) (h' : MoA tA) : MoA (dCons te tA) := fun δ S _ _ hq z => h δ S _ _ (fun x S1 z => h' δ S1 _ _ (fun xs S2 z => hq _ _ z) z) z
theorem pda_nil : PDA X [] dNil := ⟨fun _ _ _ _ hq h => hq _ _ h, PA.imp pa_nil fun σ H Q ⟨_, _, _, r2, h⟩ => h [] H .nil (.refl H) r2⟩
theorem pda_cons (ha : PD X e te) (hr : PDA X es tA) (hs : starEach (e :: es) X.env = (false, eval e X.env) :: starEach es X.env := by rfl) : PDA X (e :: es) (dCons te tA) := by
 refine ⟨dCons.mo ha.mo hr.mo, PA.imp (pa_cons ha.pe hr.pa hs) fun σ H Q hu => ?_⟩
 obtain ⟨δ, S, r1, r2, h⟩ := hu
 refine upE.go ha.mo r1 r2 h fun x S1 v H1 h1 q1 e1 p1 => ?_
 refine upA.go hr.mo (r1.ext e1) p1 h1 fun xs S2 w H2 h2 q2 e2 p2 => ?_
 exact h2 (v :: w) H2 (.cons (RepD.ext e2 x q1) q2) (e1.trans e2) p2
def dTup (t : TDA) : TDE := fun δ S Q => t δ S fun ds S1 => ds.length <= sizeLine /\ Q (.tup ds) S1
def dLst (t : TDA) : TDE := fun δ S Q => t δ S fun ds S1 => ds.length <= sizeLine /\ ∀ p, S1 p = none -> Q (.ref p) (ups S1 p (.lst ds))
theorem pd_tup {k} (h : PDA X es tA) : PD X (.Tuple es k pos) (dTup tA) := by
 refine ⟨fun δ S _ _ hq z => h.mo δ S _ _ (fun ds S1 z => ⟨z.1, hq _ _ z.2⟩) z, PE.imp (pe_tup h.pa) fun σ H Q hu => ?_⟩
 obtain ⟨δ, S, r1, r2, h'⟩ := hu
 refine upA.go h.mo r1 r2 h' fun ds S1 xs H1 h1 q1 e1 p1 => ⟨by rw [<- q1.length]; exact h1.1, fun p hp => ?_⟩
 refine h1.2 _ _ ?_ (e1.trans (.new hp _)) (p1.new hp)
 simp only [RepD]
 exact ⟨p, xs, rfl, SqT.of upd_same, RepDs.ext (.new hp _) ds q1⟩
theorem pd_lst (h : PDA X es tA) : PD X (.List es pos) (dLst tA) := by
 refine ⟨fun δ S _ _ hq z => h.mo δ S _ _ (fun ds S1 z => ⟨z.1, fun p hp => hq _ _ (z.2 p hp)⟩) z, PE.imp (pe_lst h.pa) fun σ H Q hu => ?_⟩
 obtain ⟨δ, S, r1, r2, h'⟩ := hu
 refine upA.go h.mo r1 r2 h' fun ds S1 xs H1 h1 q1 e1 p1 => ⟨by rw [<- q1.length]; exact h1.1, fun p hp => ?_⟩
 refine h1.2 p (p1.none hp) _ _ (by simp only [RepD]) (e1.trans (.new hp _)) ?_
 exact p1.ups (.new hp _) ⟨xs, upd_same, RepDs.ext (.new hp _) ds q1⟩
def fIx : RD2 := fun x y S Q => match x, y with
 | .tup ds, .int i => match atI ds i with
  | some d => Q d S
  | none => False
 | .rol ds, .int i => match atI ds i with
  | some d => Q d S
  | none => False
 | .ref p, .int i => match S p with
  | some (.lst ds) => match atI ds i with
   | some d => Q d S
   | none => False
  | _ => False
 | _, _ => False
theorem fIx.mo : MoR fIx := fun x y S Q Q' hq h => by
 unfold fIx at h ⊢
 split at h
 ·skip
  split at h
  ·exact hq _ _ h
  ·exact h
 ·skip
  split at h
  ·exact hq _ _ h
  ·exact h
 ·skip
  split at h
  ·skip
   split at h
   ·exact hq _ _ h
   ·exact h
  ·exact h.elim
 ·exact h.elim
theorem RepDs.atI {H : Hp} {ds : List D} {xs : List V} {i : Int} {d : D} (h : RepDs K H ds xs) (e : L2.atI ds i = some d) : ∃ x, L2.atI xs i = some x /\ RepD K H d x := by
 unfold L2.atI at e ⊢
 rw [h.length] at e
 cases q : ixN xs.length i with
 | none => rw [q] at e; cases e
 | some j =>
  rw [q] at e
  exact h.get e
theorem fIx.fits : Fits2 K fIx (rIx K) := fun x y d e H S Q h1 h2 h3 h => by
 unfold fIx at h
 split at h
 ·split at h
  ·rename_i q
   simp only [RepD] at h1 h2
   obtain ⟨a, xs, rfl, r1, r2⟩ := h1
   obtain ⟨x', e1, e2⟩ := r2.atI q
   exact .inr (.inl ⟨a, xs, _, x', rfl, h2, r1, e1, h x' H e2 (.refl H) h3⟩)
  ·exact h.elim
 ·split at h
  ·rename_i q
   simp only [RepD] at h1 h2
   obtain ⟨a, xs, rfl, r1, r2⟩ := h1
   obtain ⟨x', e1, e2⟩ := r2.atI q
   exact .inl ⟨a, xs, _, x', rfl, h2, r1.sq, e1, h x' H e2 (.refl H) h3⟩
  ·exact h.elim
 ·split at h
  ·rename_i q0
   split at h
   ·rename_i q
    simp only [RepD] at h1 h2
    subst h1
    obtain ⟨xs, r1, r2⟩ := h3 _ _ q0
    obtain ⟨x', e1, e2⟩ := r2.atI q
    exact .inl ⟨_, xs, _, x', rfl, h2, SqL.of r1, e1, h x' H e2 (.refl H) h3⟩
   ·exact h.elim
  ·exact h.elim
 ·exact h.elim
theorem pd_ix (ha : PD X a ta) (hb : PD X b tb) (hs : PlainIx b := by exact fun _ _ => rfl) : PD X (.Subscript a b pos) (dOp fIx ta tb) :=
 ⟨dOp.mo fIx.mo ha.mo hb.mo, PE.imp (pe_ix ix_seq ha.pe hb.pe hs) fun _ _ _ h => upOp fIx.fits fIx.mo ha.mo hb.mo h⟩
abbrev RDn := List D -> SS -> DK -> Prop
def MoN (f : RDn) : Prop := ∀ ds S (Q Q' : DK), (∀ d S', Q d S' -> Q' d S') -> f ds S Q -> f ds S Q'
def FitsN (K : PySem.W.Frag) (f : RDn) (r : List V -> Hp -> VK -> Prop) : Prop := ∀ xs ds H S Q, RepDs K H ds xs -> RepH K H S -> f ds S (dnK K H Q) -> r xs H Q
def dCB (f : RDn) (t : TDA) : TDE := fun δ S Q => t δ S fun ds S1 => f ds S1 Q
theorem dCB.mo {f : RDn} (hf : MoN f) (h : MoA tA) : MoE (dCB f tA) := fun δ S _ _ hq z => h δ S _ _ (fun ds S1 z => hf ds S1 _ _ hq z) z
theorem upCB {f : RDn} {r : List V -> Hp -> VK -> Prop} (hf : MoN f) (hr : FitsN K f r) (h : MoA tA) {σ : St} {H : Hp} {Q : VK} (hu : upE K (dCB f tA) σ H Q) : tCB r (upA K tA) σ H Q := by
 obtain ⟨δ, S, r1, r2, h'⟩ := hu
 refine upA.go h r1 r2 h' fun ds S1 xs H1 h1 q1 e1 p1 => ?_
 exact hr xs ds H1 S1 Q q1 p1 (hf ds S1 _ _ (fun d S' z => z.ext e1) h1)
theorem pd_of_callB {f : RDn} {r : List V -> Hp -> VK -> Prop} {e : Expr} (h : PE X e (tCB r (upA X.K tA))) (hf : MoN f) (hr : FitsN X.K f r) (ha : MoA tA) : PD X e (dCB f tA) :=
 ⟨dCB.mo hf ha, PE.imp h fun _ _ _ hu => upCB hf hr ha hu⟩
noncomputable def seqOf (d : D) (S : SS) : Option (List D) := match d with
 | .tup ds => some ds
 | .rol ds => some ds
 | .ref p => match S p with
  | some (.lst ds) => some ds
  | _ => none
 | _ => none
theorem seqOf.sq {H : Hp} {S : SS} {d : D} {v : V} {ds : List D} (r : RepD K H d v) (p : RepH K H S) (e : seqOf d S = some ds) : ∃ a xs, v = .ref a /\ (SqL K H a xs \/ SqT K H a xs) /\ RepDs K H ds xs := by
 unfold seqOf at e
 split at e
 ·cases e
  simp only [RepD] at r
  obtain ⟨a, xs, h1, h2, h3⟩ := r
  exact ⟨a, xs, h1, .inr h2, h3⟩
 ·cases e
  simp only [RepD] at r
  obtain ⟨a, xs, h1, h2, h3⟩ := r
  exact ⟨a, xs, h1, .inl h2.sq, h3⟩
 ·split at e
  ·rename_i q
   cases e
   simp only [RepD] at r
   subst r
   obtain ⟨xs, h1, h2⟩ := p _ _ q
   exact ⟨_, xs, rfl, .inl (SqL.of h1), h2⟩
  ·cases e
 ·cases e
theorem RepDs.one {H : Hp} {d : D} {xs : List V} (h : RepDs K H [d] xs) : ∃ x, xs = [x] /\ RepD K H d x := by
 simp only [RepDs] at h
 obtain ⟨x, r, rfl, h2, rfl⟩ := h
 exact ⟨x, rfl, h2⟩
theorem RepDs.two {H : Hp} {d d' : D} {xs : List V} (h : RepDs K H [d, d'] xs) : ∃ x y, xs = [x, y] /\ RepD K H d x /\ RepD K H d' y := by
 simp only [RepDs] at h
 obtain ⟨x, r, rfl, h2, y, r', rfl, h3, rfl⟩ := h
 exact ⟨x, y, rfl, h2, h3⟩
def fLen : RDn := fun ds S Q => match ds with
 | [d] => match seqOf d S with
  | some ds => Q (.int ds.length) S
  | none => match d with
   | .str z => z.length <= sizeLine /\ Q (.int z.length) S
   | _ => False
 | _ => False
theorem fLen.mo : MoN fLen := fun ds S Q Q' hq h => by
 unfold fLen at h ⊢
 split at h
 ·skip
  split at h
  ·exact hq _ _ h
  ·split at h
   ·exact ⟨h.1, hq _ _ h.2⟩
   ·exact h.elim
 ·exact h.elim
abbrev rLen (K : PySem.W.Frag) : List V -> Hp -> VK -> Prop := fun xs H Q => (∃ p ys, xs = [.ref p] /\ (SqL K H p ys \/ SqT K H p ys) /\ Q (.int ys.length) H) \/ (∃ z, xs = [.str z] /\ z.length <= sizeLine /\ Q (.int z.length) H)
theorem fLen.fits : FitsN K fLen (rLen K) := fun xs ds H S Q h0 h2 h => by
 unfold fLen at h
 split at h
 ·obtain ⟨x, hx, h1⟩ := h0.one; subst hx
  split at h
  ·rename_i e
   obtain ⟨a, ys, rfl, q, r⟩ := seqOf.sq h1 h2 e
   refine .inl ⟨a, ys, rfl, q, ?_⟩
   rw [<- r.length]
   exact h _ H (by simp only [RepD]) (.refl H) h2
  ·split at h
   ·simp only [RepD] at h1
    subst h1
    exact .inr ⟨_, rfl, h.1, h.2 _ H (by simp only [RepD]) (.refl H) h2⟩
   ·exact h.elim
 ·exact h.elim
def fList : RDn := fun ds S Q => match ds with
 | [d] => match seqOf d S with
  | some ds => ∀ p, S p = none -> Q (.ref p) (ups S p (.lst ds))
  | none => False
 | _ => False
theorem fList.mo : MoN fList := fun ds S Q Q' hq h => by
 unfold fList at h ⊢
 split at h
 ·skip
  split at h
  ·exact fun p hp => hq _ _ (h p hp)
  ·exact h.elim
 ·exact h.elim
theorem fList.fits : FitsN K fList (fun xs H Q => ∃ p ys, xs = [.ref p] /\ (SqL K H p ys \/ SqT K H p ys) /\ ∀ l, H l = none -> Q (.ref l) (upd H l (.lst ys))) := fun xs ds H S Q h0 h2 h => by
 unfold fList at h
 split at h
 ·obtain ⟨x, hx, h1⟩ := h0.one; subst hx
  split at h
  ·rename_i e
   obtain ⟨a, ys, rfl, q, r⟩ := seqOf.sq h1 h2 e
   refine ⟨a, ys, rfl, q, fun l hl => ?_⟩
   exact h l (h2.none hl) _ _ (by simp only [RepD]) (.new hl _) (h2.ups (.new hl _) ⟨ys, upd_same, RepDs.ext (.new hl _) _ r⟩)
  ·exact h.elim
 ·exact h.elim
def fTuple : RDn := fun ds S Q => match ds with
 | [.tup ds] => Q (.tup ds) S
 | [.rol ds] => Q (.tup ds) S
 | [.ref p] => match S p with
  | some (.lst ds) => Q (.tup ds) S
  | _ => False
 | _ => False
theorem fTuple.mo : MoN fTuple := fun ds S Q Q' hq h => by
 unfold fTuple at h ⊢
 split at h
 ·exact hq _ _ h
 ·exact hq _ _ h
 ·skip
  split at h
  ·exact hq _ _ h
  ·exact h.elim
 ·exact h.elim
theorem fTuple.fits : FitsN K fTuple (fun xs H Q => ∃ p ys, xs = [.ref p] /\ ((SqL K H p ys /\ ∀ l, H l = none -> Q (.ref l) (upd H l (.tup ys))) \/ (SqT K H p ys /\ Q (.ref p) H))) := fun xs ds H S Q h0 h2 h => by
 unfold fTuple at h
 split at h
 ·obtain ⟨x, hx, h1⟩ := h0.one; subst hx
  have h1' := h1
  simp only [RepD] at h1
  obtain ⟨a, xs, rfl, r1, r2⟩ := h1
  exact ⟨a, xs, rfl, .inr ⟨r1, h _ H h1' (.refl H) h2⟩⟩
 ·obtain ⟨x, hx, h1⟩ := h0.one; subst hx
  simp only [RepD] at h1
  obtain ⟨a, xs, rfl, r1, r2⟩ := h1
  refine ⟨a, xs, rfl, .inl ⟨r1.sq, fun l hl => h _ _ ?_ (.new hl _) (h2.new hl)⟩⟩
  simp only [RepD]
  exact ⟨l, xs, rfl, SqT.of upd_same, RepDs.ext (.new hl _) _ r2⟩
 ·obtain ⟨x, hx, h1⟩ := h0.one; subst hx
  split at h
  ·rename_i e
   simp only [RepD] at h1
   subst h1
   obtain ⟨xs, r1, r2⟩ := h2 _ _ e
   refine ⟨_, xs, rfl, .inl ⟨SqL.of r1, fun l hl => h _ _ ?_ (.new hl _) (h2.new hl)⟩⟩
   simp only [RepD]
   exact ⟨l, xs, rfl, SqT.of upd_same, RepDs.ext (.new hl _) _ r2⟩
  ·exact h.elim
 ·exact h.elim
def fII (g : Int -> Int -> D) : RDn := fun ds S Q => match ds with
 | [.int i, .int j] => Q (g i j) S
 | _ => False
theorem fII.mo {g : Int -> Int -> D} : MoN (fII g) := fun ds S Q Q' hq h => by
 unfold fII at h ⊢
 split at h
 ·exact hq _ _ h
 ·exact h.elim
theorem fII.fits {g : Int -> Int -> D} {g' : Int -> Int -> V} (hg : ∀ i j H, RepD K H (g i j) (g' i j)) : FitsN K (fII g) (fun xs H Q => ∃ i j, xs = [.int i, .int j] /\ Q (g' i j) H) := fun xs ds H S Q h0 h2 h => by
 unfold fII at h
 split at h
 ·obtain ⟨x, y, hx, h1, h3⟩ := h0.two; subst hx
  simp only [RepD] at h1 h3
  subst h1 h3
  exact ⟨_, _, rfl, h _ H (hg _ _ H) (.refl H) h2⟩
 ·exact h.elim
def fCat : RD2 := fun x y S Q => match x, y with
 | .ref p, .ref q => match S p, S q with
  | some (.lst ds), some (.lst es) => ds.length + es.length <= sizeLine /\ ∀ r, S r = none -> Q (.ref r) (ups S r (.lst (ds ++ es)))
  | _, _ => False
 | _, _ => False
def dAppend (to te : TDE) : TDE := fun δ S Q => to δ S fun x S1 => match x with
 | .ref p => (∃ ds, S1 p = some (.lst ds)) /\ te δ S1 fun y S2 => match S2 p with
  | some (.lst ds) => ds.length < sizeLine /\ Q .non (ups S2 p (.lst (ds ++ [y])))
  | _ => False
 | _ => False
theorem dAppend.mo {to te : TDE} (h : MoE to) (h' : MoE te) : MoE (dAppend to te) := fun δ S Q Q' hq z => h δ S _ _ (fun x S1 z => by
 cases x with
 | ref p =>
  refine ⟨z.1, h' δ S1 _ _ (fun y S2 w => ?_) z.2⟩
  split at w
  ·exact ⟨w.1, hq _ _ w.2⟩
  ·exact w.elim
 | _ => exact z) z
theorem pd_append {o e : Expr} {to te : TDE} {e0 : Expr} (hpe : PE X e0 (tBM X.K "list" rAppend (upE X.K to) (tCons (upE X.K te) tNil))) (h : MoE to) (h' : MoE te) : PD X e0 (dAppend to te) := by
 refine ⟨dAppend.mo h h', PE.imp hpe fun σ H Q hu => ?_⟩
 obtain ⟨δ, S, r1, r2, z⟩ := hu
 refine upE.go h r1 r2 z fun x S1 v H1 h1 q1 e1 p1 => ?_
 cases x with
 | ref p =>
  obtain ⟨⟨ds, hd⟩, h1⟩ := h1
  simp only [RepD] at q1
  subst q1
  obtain ⟨xs, g1, g2⟩ := p1 _ _ hd
  refine ⟨.inl ⟨rfl, xs, SqL.of g1⟩, ?_⟩
  refine upE.go h' (r1.ext e1) p1 h1 fun y S2 w H2 h2 q2 e2 p2 => ?_
  split at h2
  ·rename_i ds' e3
   obtain ⟨xs', g3, g4⟩ := p2 _ _ e3
   refine ⟨p, xs', w, rfl, rfl, g3, by rw [<- g4.length]; exact h2.1, ?_⟩
   have e4 : Ext H2 (upd H2 p (.lst (xs' ++ [w]))) := .lst g3 _
   exact h2.2 _ _ (by simp only [RepD]) ((e1.trans e2).trans e4) (p2.ups e4 ⟨_, upd_same, RepDs.ext e4 _ (g4.snoc q2)⟩)
  ·exact h2.elim
 | non => exact h1.elim
 | bl _ => exact h1.elim
 | int _ => exact h1.elim
 | str _ => exact h1.elim
 | tup _ => exact h1.elim
 | rol _ => exact h1.elim
end
structure EndsD where
 nx : StD -> SS -> Prop
 rt : DK
 bk : StD -> SS -> Prop := fun _ _ => False
 ct : StD -> SS -> Prop := fun _ _ => False
abbrev TDS := EndsD -> StD -> SS -> Prop
structure EndsD.Le (E E' : EndsD) : Prop where
 nx : ∀ δ S, E.nx δ S -> E'.nx δ S
 rt : ∀ d S, E.rt d S -> E'.rt d S
 bk : ∀ δ S, E.bk δ S -> E'.bk δ S
 ct : ∀ δ S, E.ct δ S -> E'.ct δ S
def MoS (t : TDS) : Prop := ∀ E E' δ S, EndsD.Le E E' -> t E δ S -> t E' δ S
noncomputable def dnE (K : PySem.W.Frag) (H : Hp) (D : Ends) : EndsD := ⟨dnS K H D.nx, dnK K H D.rt, dnS K H D.bk, dnS K H D.ct⟩
theorem dnE.ext {K : PySem.W.Frag} {H H' : Hp} {D : Ends} (e : Ext H H') : (dnE K H D).Le (dnE K H' D) := ⟨fun _ _ h => dnS.ext e h, fun _ _ h => dnK.ext e h, fun _ _ h => dnS.ext e h, fun _ _ h => dnS.ext e h⟩
def upS (K : PySem.W.Frag) (t : TDS) : TS := fun D σ H => ∃ δ S, RepSt K H δ σ /\ RepH K H S /\ t (dnE K H D) δ S
structure PDS (X : Cx) (st : Stmt) (t : TDS) : Prop where
 mo : MoS t
 ps : PS X st (upS X.K t)
structure PDSs (X : Cx) (st : List Stmt) (t : TDS) : Prop where
 mo : MoS t
 ps : PSs X st (upS X.K t)
section
variable {X : Cx} {K : PySem.W.Frag} {st : Stmt} {rest : List Stmt} {t u : TDS} {pos : Pos} {e : Expr} {te : TDE}
def dNext : TDS := fun E δ S => E.nx δ S
def dSeq (t u : TDS) : TDS := fun E δ S => t { E with nx := u E } δ S
theorem dSeq.mo (h : MoS t) (h' : MoS u) : MoS (dSeq t u) := fun E E' δ S hE z => h { E with nx := u E } { E' with nx := u E' } δ S ⟨fun δ S q => h' E E' δ S hE q, hE.rt, hE.bk, hE.ct⟩ z
theorem pdss_nil : PDSs X [] dNext := ⟨fun _ _ _ _ hE h => hE.nx _ _ h, PSs.imp pss_nil fun D σ H ⟨δ, S, r1, r2, h⟩ => h σ H r1 (.refl H) r2⟩
theorem pdss_one (h : PDS X st t) : PDSs X [st] t := ⟨h.mo, pss_one h.ps⟩
theorem pdss_cons (h : PDS X st t) (h' : PDSs X rest u) : PDSs X (st :: rest) (dSeq t u) := by
 refine ⟨dSeq.mo h.mo h'.mo, PSs.imp (pss_cons h.ps h'.ps) fun D σ H hu => ?_⟩
 obtain ⟨δ, S, r1, r2, z⟩ := hu
 refine ⟨δ, S, r1, r2, h.mo { dnE X.K H D with nx := u (dnE X.K H D) } _ δ S ⟨fun δ' S' q σ' H' q1 q2 q3 => ?_, fun _ _ q => q, fun _ _ q => q, fun _ _ q => q⟩ z⟩
 exact ⟨δ', S', q1, q3, h'.mo _ _ δ' S' (dnE.ext q2) q⟩
def dDrop (te : TDE) : TDS := fun E δ S => te δ S fun _ S1 => E.nx δ S1
theorem pds_expr (he : PD X e te) (hs : swapsWith e none pos.line X.env = pure false := by rfl) : PDS X (.Expr e pos) (dDrop te) := by
 refine ⟨fun E E' δ S hE z => he.mo δ S _ _ (fun _ _ q => hE.nx _ _ q) z, PS.imp (ps_expr he.pe hs) fun D σ H hu => ?_⟩
 obtain ⟨δ, S, r1, r2, z⟩ := hu
 exact upE.go he.mo r1 r2 z fun x S1 v H1 h1 q1 e1 p1 => h1 σ H1 (r1.ext e1) e1 p1
def dRet (te : TDE) : TDS := fun E δ S => te δ S E.rt
theorem pds_ret (he : PD X e te) : PDS X (.Return (some e) pos) (dRet te) := by
 refine ⟨fun E E' δ S hE z => he.mo δ S _ _ (fun _ _ q => hE.rt _ _ q) z, PS.imp (ps_ret he.pe) fun D σ H hu => ?_⟩
 obtain ⟨δ, S, r1, r2, z⟩ := hu
 exact upE.go he.mo r1 r2 z fun x S1 v H1 h1 q1 e1 p1 => h1 v H1 q1 e1 p1
def dIfS (c : TDT) (t u : TDS) : TDS := fun E δ S => c δ S fun k S1 => if k = true then t E δ S1 else u E δ S1
theorem pds_if {c : Expr} {p q : List Stmt} {tc : TDT} (hc : PDT X c tc) (h : PDSs X p t) (h' : PDSs X q u) : PDS X (.If c p q pos) (dIfS tc t u) := by
 refine ⟨fun E E' δ S hE z => hc.mo δ S _ _ (fun k S1 z => ite_imp (h.mo _ _ δ S1 hE) (h'.mo _ _ δ S1 hE) z) z, PS.imp (ps_if hc.pt h.ps h'.ps) fun D σ H hu => ?_⟩
 obtain ⟨δ, S, r1, r2, z⟩ := hu
 refine upT.go hc.mo r1 r2 z fun k S1 H1 h1 e1 p1 => ite_imp (fun z => ?_) (fun z => ?_) h1
 ·exact ⟨δ, S1, r1.ext e1, p1, h.mo _ _ δ S1 (dnE.ext e1) z⟩
 ·exact ⟨δ, S1, r1.ext e1, p1, h'.mo _ _ δ S1 (dnE.ext e1) z⟩
abbrev TDG := D -> StD -> SS -> (StD -> SS -> Prop) -> Prop
abbrev TDGs := List D -> StD -> SS -> (StD -> SS -> Prop) -> Prop
def MoG (t : TDG) : Prop := ∀ d δ S (Q Q' : StD -> SS -> Prop), (∀ δ S, Q δ S -> Q' δ S) -> t d δ S Q -> t d δ S Q'
def MoGs (t : TDGs) : Prop := ∀ d δ S (Q Q' : StD -> SS -> Prop), (∀ δ S, Q δ S -> Q' δ S) -> t d δ S Q -> t d δ S Q'
noncomputable def upG (K : PySem.W.Frag) (t : TDG) : TG := fun v σ H Q => ∃ d δ S, RepD K H d v /\ RepSt K H δ σ /\ RepH K H S /\ t d δ S (dnS K H Q)
noncomputable def upGs (K : PySem.W.Frag) (t : TDGs) : TGs := fun v σ H Q => ∃ d δ S, RepDs K H d v /\ RepSt K H δ σ /\ RepH K H S /\ t d δ S (dnS K H Q)
structure PDG (X : Cx) (e : Expr) (t : TDG) : Prop where
 mo : MoG t
 pg : PG X e (upG X.K t)
structure PDGs (X : Cx) (es : List Expr) (t : TDGs) : Prop where
 mo : MoGs t
 pg : PGs X es (upGs X.K t)
theorem PG.imp {e : Expr} {t t' : TG} (h : PG X e t) (hi : ∀ v σ H Q, t' v σ H Q -> t v σ H Q) : PG X e t' := fun pins s σ H v w Q I r q => h pins s σ H v w Q I r (hi v σ H Q q)
theorem PGs.imp {e : List Expr} {t t' : TGs} (h : PGs X e t) (hi : ∀ v σ H Q, t' v σ H Q -> t v σ H Q) : PGs X e t' := fun pins s σ H v w Q I r q => h pins s σ H v w Q I r (hi v σ H Q q)
def hName (i : Nat) : TDG := fun d δ S Q => Q (δ.set i (some d)) S
theorem pdg_name {e : Expr} {i : Nat} (h : PG X e (gName i)) : PDG X e (hName i) :=
 ⟨fun _ _ _ _ _ hq z => hq _ _ z, PG.imp h fun v σ H Q ⟨d, δ, S, r1, r2, r3, z⟩ => z _ H (r2.set i r1) (.refl H) r3⟩
def hNil : TDGs := fun ds δ S Q => ds = [] /\ Q δ S
def hCons (t : TDG) (u : TDGs) : TDGs := fun ds δ S Q => match ds with
 | d :: r => t d δ S fun δ' S' => u r δ' S' Q
 | [] => False
theorem pdgs_nil : PDGs X [] hNil := by
 refine ⟨fun _ _ _ _ _ hq z => ⟨z.1, hq _ _ z.2⟩, PGs.imp pgs_nil fun v σ H Q hu => ?_⟩
 obtain ⟨d, δ, S, r1, r2, r3, z1, z2⟩ := hu
 subst z1
 simp only [RepDs] at r1
 exact ⟨r1, z2 σ H r2 (.refl H) r3⟩
theorem pdgs_cons {e : Expr} {es : List Expr} {t : TDG} {u : TDGs} (h : PDG X e t) (h' : PDGs X es u) (hs : (assignEach (e :: es) X.env).map (·.2) = assign e X.env :: (assignEach es X.env).map (·.2) := by rfl) : PDGs X (e :: es) (hCons t u) := by
 refine ⟨fun ds δ S Q Q' hq z => ?_, PGs.imp (pgs_cons h.pg h'.pg hs) fun v σ H Q hu => ?_⟩
 ·cases ds with
  | nil => exact z
  | cons d r => exact h.mo d δ S _ _ (fun δ' S' z => h'.mo r δ' S' _ _ hq z) z
 ·obtain ⟨ds, δ, S, r1, r2, r3, z⟩ := hu
  cases ds with
  | nil => exact z.elim
  | cons d r =>
   simp only [RepDs] at r1
   obtain ⟨x, xs, rfl, q1, q2⟩ := r1
   refine ⟨x, xs, rfl, d, δ, S, q1, r2, r3, h.mo d δ S _ _ (fun δ' S' z σ' H' g1 g2 g3 => ?_) z⟩
   exact ⟨r, δ', S', RepDs.ext g2 r q2, g1, g3, h'.mo r δ' S' _ _ (fun δ2 S2 z2 => dnS.ext g2 z2) z⟩
def hTup (n : Nat) (t : TDGs) : TDG := fun d δ S Q => match d with
 | .tup ds => ds.length = n /\ t ds δ S Q
 | _ => False
theorem pdg_tup {e : Expr} {n : Nat} {t : TDGs} (h : PG X e (gTup X.K n (upGs X.K t))) (hm : MoGs t) : PDG X e (hTup n t) := by
 refine ⟨fun d δ S Q Q' hq z => ?_, PG.imp h fun v σ H Q hu => ?_⟩
 ·cases d with
  | tup ds => exact ⟨z.1, hm ds δ S _ _ hq z.2⟩
  | _ => exact z
 ·obtain ⟨d, δ, S, r1, r2, r3, z⟩ := hu
  cases d with
  | tup ds =>
   simp only [RepD] at r1
   obtain ⟨a, xs, rfl, q1, q2⟩ := r1
   exact ⟨a, xs, rfl, q1, by rw [<- q2.length]; exact z.1, ds, δ, S, q2, r2, r3, z.2⟩
  | non => exact z.elim
  | bl _ => exact z.elim
  | int _ => exact z.elim
  | str _ => exact z.elim
  | rol _ => exact z.elim
  | ref _ => exact z.elim
def dAsg (te : TDE) (g : TDG) : TDS := fun E δ S => te δ S fun x S1 => g x δ S1 E.nx
theorem dAsg.mo {g : TDG} (h : MoE te) (h' : MoG g) : MoS (dAsg te g) := fun E E' δ S hE z => h δ S _ _ (fun x S1 q => h' x δ S1 _ _ (fun δ S q => hE.nx _ _ q) q) z
theorem pds_set {e0 : Stmt} {i : Nat} (h : PS X e0 (tAsg (upE X.K te) (gName i))) (hm : MoE te) : PDS X e0 (dAsg te (hName i)) := by
 refine ⟨dAsg.mo hm fun _ _ _ _ _ hq z => hq _ _ z, PS.imp h fun D σ H hu => ?_⟩
 obtain ⟨δ, S, r1, r2, z⟩ := hu
 refine upE.go hm r1 r2 z fun x S1 v H1 h1 q1 e1 p1 => ?_
 exact h1 _ H1 ((r1.ext e1).set i q1) e1 p1
end
end L3
namespace L3
open PySem PySem.Spec L2
open PyProof.Rows hiding St
structure DIt where
 items : List D
 keep : SS -> Prop
abbrev TDI := StD -> SS -> (DIt -> SS -> Prop) -> Prop
def MoI (t : TDI) : Prop := ∀ δ S (Q Q' : DIt -> SS -> Prop), (∀ I S', Q I S' -> Q' I S') -> t δ S Q -> t δ S Q'
def ItRep (K : PySem.W.Frag) (H1 : Hp) (J : It) (I : DIt) : Prop := ∀ (i : Nat) (H : Hp) (S : SS), Ext H1 H -> RepH K H S -> I.keep S ->
 (∀ d, I.items[i]? = some d -> J.go i H /\ ∀ x H', J.yld i H x H' -> Ext H H' /\ RepH K H' S /\ RepD K H' d x) /\ (I.items.length <= i -> J.stop i H)
def dnI (K : PySem.W.Frag) (H : Hp) (R : It -> Hp -> Prop) : DIt -> SS -> Prop := fun I S1 => ∀ J H1, Ext H H1 -> RepH K H1 S1 -> ItRep K H1 J I -> R J H1
def upI (K : PySem.W.Frag) (t : TDI) : TI := fun σ H R => ∃ δ S, RepSt K H δ σ /\ RepH K H S /\ t δ S (dnI K H R)
structure PDI (X : Cx) (tg iter : Expr) (t : TDI) : Prop where
 mo : MoI t
 pi : PI X tg iter (upI X.K t)
theorem PI.imp {X : Cx} {tg e : Expr} {t t' : TI} (h : PI X tg e t) (hi : ∀ σ H Q, t' σ H Q -> t σ H Q) : PI X tg e t' := fun pins s σ H Q I q => h pins s σ H Q I (hi σ H Q q)
section
variable {X : Cx} {K : PySem.W.Frag} {tg e : Expr} {te : TDE} {pos : Pos}
theorem RepDs.at {H : Hp} {ds : List D} {xs : List V} {i : Nat} {d : D} {x : V} (r : RepDs K H ds xs) (h1 : ds[i]? = some d) (h2 : xs[i]? = some x) : RepD K H d x := by
 obtain ⟨y, e1, e2⟩ := r.get h1
 rw [h2] at e1; cases e1; exact e2
noncomputable def rangeD (lo : Int) (n : Nat) : List D := (List.range n).map fun (k : Nat) => D.int (lo + (k : Int))
theorem rangeD_get {lo : Int} {n i : Nat} {d : D} (h : (rangeD lo n)[i]? = some d) : i < n /\ d = .int (lo + (i : Int)) := by
 unfold rangeD at h
 rw [List.getElem?_map] at h
 cases q : (List.range n)[i]? with
 | none => rw [q] at h; cases h
 | some j =>
  rw [q] at h
  obtain ⟨h1, h2⟩ := List.getElem?_eq_some_iff.mp q
  rw [List.length_range] at h1
  rw [List.getElem_range] at h2
  subst h2
  cases h
  exact ⟨h1, rfl⟩
theorem rangeD_len (lo : Int) (n : Nat) : (rangeD lo n).length = n := by unfold rangeD; rw [List.length_map, List.length_range]
theorem ItRep.range {H1 : Hp} {lo : Int} {n : Nat} : ItRep K H1 (Itr lo n) ⟨rangeD lo n, fun _ => True⟩ := fun i H S _ x2 _ => by
 refine ⟨fun d hd => ?_, fun hl => by rw [show (DIt.mk (rangeD lo n) fun _ => True).items = rangeD lo n from rfl, rangeD_len] at hl; exact hl⟩
 obtain ⟨h1, rfl⟩ := rangeD_get hd
 refine ⟨h1, fun x H' q => ?_⟩
 obtain ⟨rfl, rfl⟩ := q
 exact ⟨.refl _, x2, by simp only [RepD]⟩
def jRng1 (t : TDA) : TDI := fun δ S R => t δ S fun ds S1 => match ds with
 | [.int j] => (-(2 ^ 62) <= j /\ j < 2 ^ 62) /\ R ⟨rangeD 0 j.toNat, fun _ => True⟩ S1
 | _ => False
def jRng2 (t : TDA) : TDI := fun δ S R => t δ S fun ds S1 => match ds with
 | [.int i, .int j] => (-(2 ^ 62) <= i /\ i < 2 ^ 62 /\ -(2 ^ 62) <= j /\ j < 2 ^ 62) /\ R ⟨rangeD i (j - i).toNat, fun _ => True⟩ S1
 | _ => False
variable {tA : TDA}
theorem pdi_range2 (h : PI X tg e (iRng2 (upA X.K tA))) (hm : MoA tA) : PDI X tg e (jRng2 tA) := by
 refine ⟨fun δ S Q Q' hq z => hm δ S _ _ (fun ds S1 z => ?_) z, PI.imp h fun σ H R hu => ?_⟩
 ·split at z
  ·exact ⟨z.1, hq _ _ z.2⟩
  ·exact z.elim
 ·obtain ⟨δ, S, r1, r2, z⟩ := hu
  refine upA.go hm r1 r2 z fun ds S1 xs H1 h1 q1 e1 p1 => ?_
  split at h1
  ·obtain ⟨x, y, rfl, q, q'⟩ := q1.two
   simp only [RepD] at q q'
   subst q q'
   exact ⟨_, _, rfl, h1.1, h1.2 _ H1 e1 p1 .range⟩
  ·exact h1.elim
def dFor (ti : TDI) (g : TDG) (tb : TDS) : TDS := fun E δ S => ti δ S fun I S1 => ∃ W : Nat -> StD -> SS -> Prop, W 0 δ S1 /\ (∀ i δ S, W i δ S -> I.keep S) /\
 (∀ i d δ S, I.items[i]? = some d -> W i δ S -> g d δ S fun δ2 S2 => tb { E with nx := W (i + 1), ct := W (i + 1), bk := E.nx } δ2 S2) /\ ∀ δ S, W I.items.length δ S -> E.nx δ S
theorem dFor.mo {ti : TDI} {g : TDG} {tb : TDS} (hi : MoI ti) (hg : MoG g) (hb : MoS tb) : MoS (dFor ti g tb) := fun E E' δ S hE z => hi δ S _ _ (fun I S1 ⟨W, w0, wk, ws, wd⟩ => by
 refine ⟨W, w0, wk, fun i d δ S hd hw => hg d δ S _ _ (fun δ2 S2 z => hb { E with nx := W (i + 1), ct := W (i + 1), bk := E.nx } { E' with nx := W (i + 1), ct := W (i + 1), bk := E'.nx } δ2 S2 ⟨fun _ _ q => q, hE.rt, hE.nx, fun _ _ q => q⟩ z) (ws i d δ S hd hw), fun δ S q => hE.nx _ _ (wd δ S q)⟩) z
theorem pds_for {iter : Expr} {body : List Stmt} {ti : TDI} {g : TDG} {tb : TDS} (hp : PassesOwn (model X.prog X.w) X.A X.env X.xe) (hc : X.calm = true) (hi : PDI X tg iter ti) (hg : PDG X tg g) (hb : PDSs X body tb)
  (hs : ∀ x, foldedSetIterable iter X.env x = pure x := by intro _; rfl) : PDS X (.For tg iter body [] pos) (dFor ti g tb) := by
 refine ⟨dFor.mo hi.mo hg.mo hb.mo, PS.imp (ps_for hp hc hi.pi hg.pg hb.ps hs) fun D σ H hu => ?_⟩
 obtain ⟨δ, S, r1, r2, z⟩ := hu
 refine ⟨δ, S, r1, r2, hi.mo δ S _ _ (fun I S1 hW J H1 e1 p1 rep => ?_) z⟩
 obtain ⟨W, w0, wk, ws, wd⟩ := hW
 refine ⟨fun i m σ H2 => m = I.items.length - i /\ i <= I.items.length /\ Ext H1 H2 /\ ∃ δ S, RepSt X.K H2 δ σ /\ RepH X.K H2 S /\ W i δ S, ⟨_, rfl, Nat.zero_le _, .refl _, δ, S1, r1.ext e1, p1, w0⟩, ?_⟩
 rintro i m σ2 H2 ⟨rfl, hi', x2, δ2, S2, q1, q2, w2⟩
 obtain ⟨g1, g2⟩ := rep i H2 S2 x2 q2 (wk i δ2 S2 w2)
 by_cases hl : i < I.items.length
 ·have hd : I.items[i]? = some I.items[i] := by simp [hl]
  obtain ⟨go, yl⟩ := g1 _ hd
  refine .inr ⟨go, fun σ' H' => Ext H1 H' /\ ∃ δ S, RepSt X.K H' δ σ' /\ RepH X.K H' S /\ W (i + 1) δ S, fun σ' H' q => ⟨_, by omega, rfl, hl, q⟩, fun x H3 hy => ?_⟩
  obtain ⟨x3, p3, d3⟩ := yl x H3 hy
  refine ⟨_, δ2, S2, d3, q1.ext x3, p3, hg.mo _ δ2 S2 _ _ (fun δ4 S4 z4 σ4 H4 a1 a2 a3 => ?_) (ws i _ δ2 S2 hd w2)⟩
  refine ⟨δ4, S4, a1, a3, hb.mo _ _ δ4 S4 ⟨fun δ5 S5 w5 σ5 H5 b1 b2 b3 => ⟨((x2.trans x3).trans a2).trans b2, δ5, S5, b1, b3, w5⟩, fun _ _ q => dnK.ext (((e1.trans x2).trans x3).trans a2) q, fun _ _ q => dnS.ext (((e1.trans x2).trans x3).trans a2) q, fun δ5 S5 w5 σ5 H5 b1 b2 b3 => ⟨((x2.trans x3).trans a2).trans b2, δ5, S5, b1, b3, w5⟩⟩ z4⟩
 ·have e : i = I.items.length := by omega
  subst e
  exact .inl ⟨g2 (Nat.le_refl _), wd δ2 S2 w2 σ2 H2 q1 (e1.trans x2) q2⟩
abbrev SpD := List D -> SS -> DK -> Prop
def MoP (sp : SpD) : Prop := ∀ ds S (Q Q' : DK), (∀ d S', Q d S' -> Q' d S') -> sp ds S Q -> sp ds S Q'
noncomputable def upP (K : PySem.W.Frag) (sp : SpD) : Sp := fun vs H Q _ => ∃ ds S, RepDs K H ds vs /\ RepH K H S /\ sp ds S (dnK K H Q)
def dCall (sp : SpD) (t : TDA) : TDE := fun δ S Q => t δ S fun ds S1 => sp ds S1 Q
theorem pd_call {sp : SpD} {E : XK} {e : Expr} (h : PE X e (tCall (upP X.K sp) [] E (upA X.K tA))) (hs : MoP sp) (hm : MoA tA) : PD X e (dCall sp tA) := by
 refine ⟨fun δ S Q Q' hq z => hm δ S _ _ (fun ds S1 z => hs ds S1 _ _ hq z) z, PE.imp h fun σ H Q hu => ?_⟩
 obtain ⟨δ, S, r1, r2, z⟩ := hu
 refine upA.go hm r1 r2 z fun ds S1 xs H1 h1 q1 e1 p1 => ?_
 rw [List.append_nil]
 exact ⟨ds, S1, q1, p1, hs ds S1 _ _ (fun d S' q => dnK.ext e1 q) h1⟩
noncomputable def startD (N : List Str) (ds : List D) : StD := ds.map some ++ List.replicate (N.length - ds.length) none
theorem RepSt.init {H : Hp} {N : List Str} {ds : List D} {vs : List V} (r : RepDs K H ds vs) : RepSt K H (startD N ds) (start N vs) := by
 have hl := r.length
 refine ⟨by unfold startD L2.start; simp [hl], fun i d h => ?_⟩
 unfold startD at h
 have hi : i < ds.length := by
  rcases Nat.lt_or_ge i ds.length with q | q
  ·exact q
  ·rw [List.getElem?_append_right (by simpa using q), List.getElem?_replicate] at h
   split at h <;> cases h
 rw [List.getElem?_append_left (by simpa using hi), List.getElem?_map] at h
 cases q : ds[i]? with
 | none => rw [q] at h; cases h
 | some d' =>
  rw [q] at h
  cases h
  obtain ⟨x, e1, e2⟩ := r.get q
  refine ⟨x, ?_, e2⟩
  unfold L2.start
  rw [List.getElem?_append_left (by simpa using by omega), List.getElem?_map, e1]
  rfl
theorem fun_ok {P : Program} {w : World} {K : PySem.W.Frag} {mg : Str -> Option Value} {base : Heap} {x qual : Str} {st : Stmt} {f : Addr} {fd : FuncData} {N ps : List Str} {k : Nat} {sp : SpD} (F : Fun K x qual st f fd) (Sc : FnScope N ps (defScope st))
  (len : ∀ ds S Q, sp ds S Q -> ds.length = ps.length)
  (hbody : ∀ (cdv : Value) (A : Around) (outer : List Env) (s : Shared) (H : Hp) (E : XK), Room k (A.deeper (envOfC qual (defScope st) s.heap.objs.size f cdv)) ->
   ∃ t, PDSs (cxOf CX0 P w K mg base N qual (defScope st) f cdv A outer s H E).nox (defBody st) t /\ ∀ ds S Q, sp ds S Q -> t { nx := fun _ S' => Q .non S', rt := Q } (startD N ds) S) : FnOk P w K mg base CX0 (k + 1) f fd ps (upP K sp) := by
 refine F.ok Sc (fun vs H Q E h => ?_) fun cdv A outer s H vs Q E hr h => ?_
 ·obtain ⟨ds, S, r1, _, z⟩ := h
  rw [<- r1.length]; exact len _ _ _ z
 ·obtain ⟨ds, S, r1, r2, z⟩ := h
  obtain ⟨t, ht, hq⟩ := hbody cdv A outer s H E hr
  refine ⟨_, ht.ps, startD N ds, S, .init r1, r2, ht.mo { nx := fun _ S' => dnK K H Q .non S', rt := dnK K H Q } _ _ _ ⟨fun δ S' q σ' H' _ b c => q .non H' (by simp only [RepD]) b c, fun _ _ q => q, fun _ _ q => False.elim q, fun _ _ q => False.elim q⟩ (hq ds S _ z)⟩
noncomputable def pickD (pick : List (Option Nat)) (δ : StD) : StD := pick.map fun o => o.bind fun i => (δ[i]?).join
theorem RepSt.pick {H : Hp} {δ : StD} {σ : St} (r : RepSt K H δ σ) (pick : List (Option Nat)) : RepSt K H (pickD pick δ) (pickSt pick σ) := by
 refine ⟨by unfold pickD pickSt; simp, fun i d h => ?_⟩
 unfold pickD at h
 rw [List.getElem?_map] at h
 cases q : pick[i]? with
 | none => rw [q] at h; cases h
 | some o =>
  rw [q] at h
  cases o with
  | none => simp at h
  | some j =>
   simp only [Option.map_some, Option.bind_some, Option.some.injEq] at h
   have hj : δ[j]? = some (some d) := by
    cases q2 : δ[j]? with
    | none => rw [q2] at h; cases h
    | some o2 => rw [q2] at h; simp only [Option.join_some] at h; rw [h]
   obtain ⟨v, e1, e2⟩ := r.2 j d hj
   refine ⟨v, ?_, e2⟩
   unfold pickSt
   rw [List.getElem?_map, q]
   simp [e1]
def StLe (δ δ' : StD) : Prop := δ.length = δ'.length /\ ∀ (i : Nat) d, δ[i]? = some (some d) -> δ'[i]? = some (some d)
theorem StLe.rep {H : Hp} {δ δ' : StD} {σ : St} (h : StLe δ δ') (r : RepSt K H δ' σ) : RepSt K H δ σ := ⟨h.1.trans r.1, fun i d q => r.2 i d (h.2 i d q)⟩
structure PDF (X : Cx) (ifs : List Expr) (t : TDT) : Prop where
 mo : MoT t
 pf : PF X ifs (upT X.K t)
theorem PF.imp {ifs : List Expr} {t t' : TT} (h : PF X ifs t) (hi : ∀ σ H Q, t' σ H Q -> t σ H Q) : PF X ifs t' := fun pins s σ H Q I q => h pins s σ H Q I (hi σ H Q q)
def eTrue : TDT := fun _ S Q => Q true S
theorem pdf_nil : PDF X [] eTrue := ⟨fun _ _ _ _ hq z => hq _ _ z, PF.imp pf_nil fun _ H _ ⟨_, _, _, r2, z⟩ => z H (.refl H) r2⟩
section
variable {N' : List Str} {pick : List (Option Nat)} {scope : Scope} {elt iter : Expr} {ifs : List Expr} {ti : TDI} {g : TDG} {tc : TDT}
end
end
end L3
namespace L2
open PySem PySem.Spec PyProof.Rows
def iSeq (K : PySem.W.Frag) (tl : TE) : TI := fun σ H R => tl σ H fun x H1 => ∃ a, x = .ref a /\ (((∃ xs, SqL K H1 a xs) /\ R (Itl K a) H1) \/ ((∃ xs, SqT K H1 a xs) /\ R (Itt K a) H1))
theorem pi_seq {X : Cx} {tg l : Expr} {tl : TE} (hl : PE X l tl) : PI X tg l (iSeq X.K tl) := by
 intro pins s σ H R I h
 refine thn (hl pins s σ H _ I h) fun v s1 ⟨x, H1, I1, r1, a, hx, q1⟩ => ?_
 subst hx
 cases r1
 have new : ∀ b ∈ [s1.heap.objs.size], FpOk X pins H1 b := fun b hb => by
  obtain rfl : b = s1.heap.objs.size := List.mem_singleton.mp hb
  exact I1.fpOk (Nat.le_refl _) (I1.hok.fresh (Nat.le_refl _))
 rcases q1 with ⟨⟨xs, hq⟩, q⟩ | ⟨⟨xs, hq⟩, q⟩
 ·obtain ⟨its, _, pl, _⟩ := I1.list hq
  exact wpAny_pyIter_list pl.isList ⟨_, _, _, _, H1, rfl, I1.kept (t' := s1.toks) fun b o eo => Heap.get?_push_of_some _ eo, turn_list a _, ⟨_, Heap.get?_push_size _ rfl, rfl, rfl⟩, new, q⟩
 ·obtain ⟨its, _, pt, _⟩ := I1.tuple hq
  exact wpAny_pyIter_tuple (show s1.heap.IsTuple a its.toArray from pt) ⟨_, _, _, _, H1, rfl, I1.kept (t' := s1.toks) fun b o eo => Heap.get?_push_of_some _ eo, turn_tuple a _, ⟨_, Heap.get?_push_size _ rfl, rfl, rfl⟩, new, q⟩
theorem range_all (bs : List Bool) : (List.range bs.length).all (fun i => bs.getD i true) = bs.all id := by
 rw [Bool.eq_iff_iff, List.all_eq_true, List.all_eq_true]
 constructor
 ·intro h b hb
  obtain ⟨i, hi, rfl⟩ := List.mem_iff_getElem.mp hb
  have := h i (List.mem_range.mpr hi)
  simpa [hi] using this
 ·intro h i hi
  have hi' := List.mem_range.mp hi
  have := h bs[i] (List.getElem_mem hi')
  simpa [hi'] using this
theorem bools_at {bs : List Bool} {its : List Value} (r : Vals (bs.map V.bl) its) {i : Nat} {v : Value} (h : its.toArray[i]? = some v) : v = .bool (bs.getD i true) := by
 have hl := r.length
 rw [List.length_map] at hl
 have h' : its[i]? = some v := by simpa using h
 have hi : i < bs.length := by
  rw [hl]
  rcases Nat.lt_or_ge i its.length with q | q
  ·exact q
  ·rw [List.getElem?_eq_none q] at h'; cases h'
 obtain ⟨u, e1, e2⟩ := r.get (i := i) (x := .bl bs[i]) (by simp [hi])
 rw [h'] at e1; cases e1
 have : v = .bool bs[i] := e2
 rw [this]
 simp [hi]
section
variable {X : Cx}
theorem call_allB (hc : X.calm = true) : CallR X (.builtin "all") (fun xs H Q => ∃ p, ∃ bs : List Bool, xs = [.ref p] /\ SqL X.K H p (bs.map V.bl) /\ Q (.bl (bs.all id)) H) := by
 intro pins s σ H xs us Q I r h
 obtain ⟨p, bs, rfl, hq, q⟩ := h
 obtain ⟨u, rfl, ru⟩ := vals1 r
 cases ru
 obtain ⟨its, rv, pl, hz⟩ := I.list hq
 have hl := rv.length
 rw [List.length_map] at hl
 have hlt : p < s.heap.objs.size := by obtain ⟨o, n, e, _⟩ := pl; exact Heap.lt_size e
 refine call_all_walk (wpAny_pyIter_list pl.isList ?_)
 refine ⟨s.heap.objs.size, _, _, _, _, _, fun i => bs.getD i true, rfl, Walks.list (A := X.A.in1) (I.ok.hd hc) s.heap.objs.size p (Nat.ne_of_lt hlt) its.toArray, ⟨⟨_, Heap.get?_push_size _ rfl, rfl, rfl⟩, pl.isList.push _⟩, fun i v s' Q' E' hv hq' => ?_, fun h' tk hk => ?_⟩
 ·rw [bools_at rv hv]
  exact wpAny_truthy_bool hq'
 ·have e : (List.range its.toArray.size).all (fun i => bs.getD i true) = bs.all id := by rw [List.size_toArray, <- hl, range_all]
  rw [e]
  exact ⟨.bl _, H, I.kept (t' := tk) fun b o eo => hk b o (by simpa using Nat.ne_of_lt (Heap.lt_size eo)) (Heap.get?_push_of_some _ eo), rfl, q⟩
end
end L2
namespace L3
open PySem PySem.Spec L2
open PyProof.Rows hiding St
structure Bt (mg : Str -> Option Value) : Prop where
 len : mg "len" = none
 range : mg "range" = none
 any : mg "any" = none
 all : mg "all" = none
 sorted : mg "sorted" = none
 isinstance : mg "isinstance" = none
 bool : mg "bool" = none
 int : mg "int" = none
 str : mg "str" = none
 list : mg "list" = none
 tuple : mg "tuple" = none
 max : mg "max" = none
 min : mg "min" = none
section
variable {X : Cx} {K : PySem.W.Frag} {a b c e : Expr} {es : List Expr} {ta tb tc te : TDE} {tA : TDA} {pos p : Pos}
theorem csc {N' : List Str} {pick : List (Option Nat)} {scope esc : Scope} {N : List Str} (hE : X.env.scope = esc := by rfl) (hN : X.N = N := by rfl) (h1 : scope.kind = .function := by rfl) (h2 : scope.names.all (fun y => decide (y.2 ≠ .cell)) = true := by decide +kernel)
  (h3 : scope.names.all (fun y => !decide (y.2 = .local) || decide (scope.names.lookup y.1 = some .local)) = true := by decide +kernel)
  (h4 : scope.names.all (fun y => !decide (y.2 = .free) || (decide (esc.names.lookup y.1 = some .cell) || decide (esc.names.lookup y.1 = some .free))) = true := by decide +kernel)
  (h5 : pick.length = N'.length := by rfl) (h6 : pickOk N N' pick scope = true := by decide +kernel) : CScope X N' pick scope := by
 refine ⟨h1, fun y hy => ?_, fun y hy hl => ?_, fun y hy hf => ?_, h5, by rw [hN]; exact h6⟩
 ·exact of_decide_eq_true (List.all_eq_true.mp h2 y hy)
 ·have := List.all_eq_true.mp h3 y hy
  rw [decide_eq_true hl] at this
  simpa using this
 ·have := List.all_eq_true.mp h4 y hy
  rw [decide_eq_true hf] at this
  rw [hE]
  simpa using this
theorem pdg_nm (i : Nat) {x : Str} (hN : X.N.Nodup) (hi : X.N[i]? = some x := by rfl) (hx : Loc X.env.scope x := by first | exact Or.inl rfl | exact Or.inr rfl) (hf : X.fn x = true \/ X.env.scope.names.lookup x = some .local := by first | exact .inl rfl | exact .inr rfl) : PDG X (.Name x pos) (hName i) :=
 pdg_name (pg_name hN hi hx hf)
theorem pdg_tp {k : Nat} {t : TDGs} {n : Nat} (h : PDGs X es t) (hc : X.calm = true := by rfl) (hn : (assignEach es X.env).length = n := by rfl) (hst : (assignEach es X.env).findIdx? (·.1) = none := by rfl) : PDG X (.Tuple es k pos) (hTup n t) :=
 pdg_tup (pg_tup hc h.pg hn hst) h.mo
theorem pds_st (i : Nat) {x : Str} {pos' : Pos} (hN : X.N.Nodup) (he : PD X e te) (hi : X.N[i]? = some x := by rfl) (hx : Loc X.env.scope x := by first | exact Or.inl rfl | exact Or.inr rfl) (hs : swapsWith e (some (.Name x pos')) pos.line X.env = pure false := by rfl)
  (hf : X.fn x = true \/ X.env.scope.names.lookup x = some .local := by first | exact .inl rfl | exact .inr rfl) : PDS X (.Assign [.Name x pos'] e pos) (dAsg te (hName i)) :=
 pds_set (ps_set hN hi hx he.pe hs hf) he.mo
def jSeq (te : TDE) : TDI := fun δ S R => te δ S fun x S1 => match x with
 | .tup ds => R ⟨ds, fun _ => True⟩ S1
 | .rol ds => R ⟨ds, fun _ => True⟩ S1
 | .ref p => match S1 p with
  | some (.lst ds) => R ⟨ds, fun S => S p = some (.lst ds)⟩ S1
  | _ => False
 | _ => False
theorem pdi_seq {tg : Expr} (h : PD X e te) : PDI X tg e (jSeq te) := by
 refine ⟨fun δ S Q Q' hq z => h.mo δ S _ _ (fun x S1 z => ?_) z, ?_⟩
 ·cases x with
  | ref p =>
   dsimp only at z ⊢
   split at z
   ·exact hq _ _ z
   ·exact z.elim
  | rol ds => exact hq _ _ z
  | tup ds => exact hq _ _ z
  | _ => exact z
 ·refine PI.imp (pi_seq h.pe) fun σ H R hu => ?_
  obtain ⟨δ, S, r1, r2, z⟩ := hu
  refine upE.go h.mo r1 r2 z fun x S1 v H1 h1 q1 e1 p1 => ?_
  cases x with
  | tup ds =>
   simp only [RepD] at q1
   obtain ⟨a, xs, rfl, g1, g2⟩ := q1
   refine ⟨a, rfl, .inr ⟨⟨xs, g1⟩, h1 _ H1 e1 p1 fun i H2 S2 x1 x2 _ => ⟨fun d hd => ?_, fun hl => ⟨xs, x1.sqt g1, by rw [<- g2.length]; exact hl⟩⟩⟩⟩
   obtain ⟨y, hy, _⟩ := g2.get hd
   refine ⟨⟨xs, y, x1.sqt g1, hy⟩, fun x H' q => ?_⟩
   obtain ⟨rfl, q⟩ := q
   exact ⟨.refl _, x2, (RepDs.ext x1 ds g2).at hd (q xs (x1.sqt g1))⟩
  | ref p =>
   dsimp only at h1
   split at h1
   ·rename_i ds e2
    simp only [RepD] at q1
    subst q1
    obtain ⟨xs0, g1, _⟩ := p1 _ _ e2
    refine ⟨p, rfl, .inl ⟨⟨xs0, SqL.of g1⟩, h1 _ H1 e1 p1 fun i H2 S2 x1 x2 hk => ?_⟩⟩
    obtain ⟨xs, g3, g4⟩ := x2 _ _ hk
    refine ⟨fun d hd => ?_, fun hl => ⟨xs, SqL.of g3, by rw [<- g4.length]; exact hl⟩⟩
    obtain ⟨y, hy, _⟩ := g4.get hd
    refine ⟨⟨xs, y, SqL.of g3, hy⟩, fun x H' q => ?_⟩
    obtain ⟨rfl, q⟩ := q
    exact ⟨.refl _, x2, g4.at hd (q xs (SqL.of g3))⟩
   ·exact h1.elim
  | rol ds =>
   simp only [RepD] at q1
   obtain ⟨a, xs, rfl, g1, g2⟩ := q1
   refine ⟨a, rfl, .inl ⟨⟨xs, g1.sq⟩, h1 _ H1 e1 p1 fun i H2 S2 x1 x2 _ => ⟨fun d hd => ?_, fun hl => ⟨xs, (x1.sqf g1).sq, by rw [<- g2.length]; exact hl⟩⟩⟩⟩
   obtain ⟨y, hy, _⟩ := g2.get hd
   refine ⟨⟨xs, y, (x1.sqf g1).sq, hy⟩, fun x H' q => ?_⟩
   obtain ⟨rfl, q⟩ := q
   exact ⟨.refl _, x2, (RepDs.ext x1 ds g2).at hd (q xs (x1.sqf g1).sq)⟩
  | non => exact h1.elim
  | bl _ => exact h1.elim
  | int _ => exact h1.elim
  | str _ => exact h1.elim
end
end L3
namespace TS
open PySem PyProof.Rows
abbrev ltP : Keyed -> Keyed -> StateT SortSt Sem (Option Bool) := sortPriv% PySem.Builtin.lt
abbrev elP : Array Keyed -> Nat -> StateT SortSt Sem Keyed := sortPriv% PySem.Builtin.elem
abbrev gaP : Bool -> Keyed -> Array Keyed -> Nat -> Nat -> Nat -> StateT SortSt Sem (Option Nat) := sortPriv% PySem.Builtin.gallop
abbrev mgP : Nat -> StateT SortSt Sem Unit := sortPriv% PySem.Builtin.setMinGallop
abbrev loP : Array Keyed -> Array Keyed -> StateT SortSt Sem (Array Keyed) := sortPriv% PySem.Builtin.mergeLo
abbrev hiP : Array Keyed -> Array Keyed -> StateT SortSt Sem (Array Keyed) := sortPriv% PySem.Builtin.mergeHi
structure Asks (prog : Program) (w : World) (A : Around) (E : Value -> Shared -> Prop) (s : Shared) (κ : SortKind) (D : Keyed -> Prop) (lb : Keyed -> Keyed -> Bool) : Prop where
 ask : ∀ {x y : Keyed} {st : SortSt} {Q : Option Bool -> SortSt -> Prop}, D x -> D y -> kindOf st = κ -> Q (some (lb x y)) st -> wpS (model prog w) A E s (ltP x y) Q st
 tr : ∀ {a b c : Keyed}, lb b a = false -> lb c b = false -> lb c a = false
 as : ∀ {a b : Keyed}, lb a b = true -> lb b a = false
section
variable {prog : Program} {w : World} {A : Around} {E : Value -> Shared -> Prop} {s : Shared} {κ : SortKind} {D : Keyed -> Prop} {lb : Keyed -> Keyed -> Bool}
theorem Asks.refl (G : Asks prog w A E s κ D lb) (a : Keyed) : lb a a = false := by
 cases h : lb a a with
 | false => rfl
 | true => rw [G.as h] at h; cases h
theorem wpS_el {arr : Array Keyed} {i : Nat} {x : Keyed} {st : SortSt} {Q : Keyed -> SortSt -> Prop} (hx : arr[i]? = some x) (h : Q x st) : wpS (model prog w) A E s (elP arr i) Q st := by
 have e : elP arr i = elem' arr i := rfl
 rw [e, elem'_eq, hx]
 exact wpS_pure h
noncomputable def byd (lb : Keyed -> Keyed -> Bool) (left : Bool) (key x : Keyed) : Bool := if left = true then lb x key else !lb key x
theorem wpS_bey (G : Asks prog w A E s κ D lb) {left : Bool} {key x : Keyed} {arr : Array Keyed} {i : Nat} {st : SortSt} {Q : Option Bool -> SortSt -> Prop} (hx : arr[i]? = some x) (dx : D x) (dk : D key)
  (hk : kindOf st = κ) (h : Q (some (byd lb left key x)) st) :
  wpS (model prog w) A E s (do let x <- elP arr i; if left = true then ltP x key else do let r <- ltP key x; pure (r.map (fun x => !x))) Q st := by
 refine wpS_bind (wpS_el hx ?_)
 unfold byd at h
 cases left with
 | true => exact G.ask dx dk hk h
 | false => exact wpS_bind (G.ask dk dx hk (wpS_pure h))
def Cut (P : Nat -> Bool) (n lo hi : Nat) : Prop := lo <= hi /\ hi <= n /\ (∀ i, i < lo -> P i = true) /\ ∀ i, hi <= i -> i < n -> P i = false
theorem wpS_gallop (G : Asks prog w A E s κ D lb) {left : Bool} {key : Keyed} {arr : Array Keyed} {base n hint : Nat} {st : SortSt} {Q : Option Nat -> SortSt -> Prop} {e : Nat -> Keyed}
  (he : ∀ i, i < n -> arr[base + i]? = some (e i)) (hd : ∀ i, i < n -> D (e i)) (dk : D key) (hk : kindOf st = κ) (hh : hint < n)
  (mono : ∀ i j, i <= j -> j < n -> byd lb left key (e j) = true -> byd lb left key (e i) = true)
  (h : ∀ k, k <= n -> (∀ i, i < k -> byd lb left key (e i) = true) -> (∀ i, k <= i -> i < n -> byd lb left key (e i) = false) -> Q (some k) st) :
  wpS (model prog w) A E s (gaP left key arr base n hint) Q st := by
 have mono' : ∀ i j, i <= j -> j < n -> byd lb left key (e i) = false -> byd lb left key (e j) = false := fun i j hij hj hi => by
  cases c : byd lb left key (e j) with
  | false => rfl
  | true => rw [mono i j hij hj c] at hi; cases hi
 unfold gaP
 refine wpS_bind (wpS_bey G (he hint hh) (hd _ hh) dk hk ?_)
 dsimp only
 cases hP : byd lb left key (e hint) with
 | true =>
  simp only [if_true]
  refine wpS_bind (wpS_mono (wpS_forRange (I := fun k c st' => st' = st /\ c.1 = none /\ k < c.2.2 /\ c.2.1 < c.2.2 /\ hint + c.2.1 < n /\ byd lb left key (e (hint + c.2.1)) = true)
   (Q := fun c st' => st' = st /\ c.1 = none /\ Cut (fun i => byd lb left key (e i)) n (hint + c.2.1 + 1) (hint + min c.2.2 (n - hint))) ?step ?fin ⟨rfl, rfl, by simp, by simp, by simpa using hh, by simpa using hP⟩) ?post)
  case step =>
   rintro k ⟨r, l, o⟩ st' _ hkn ⟨rfl, rfl, h1, h2, h3, h4⟩
   dsimp only at h1 h2 h3 h4 ⊢
   have cut : ∀ m, l < m -> (n - hint <= m \/ byd lb left key (e (hint + m)) = false) -> Cut (fun i => byd lb left key (e i)) n (hint + l + 1) (hint + min m (n - hint)) := fun m hm hc =>
    ⟨by omega, by omega, fun i hi => mono i (hint + l) (by omega) h3 h4, fun i hi hin => by
     rcases hc with hc | hc
     ·omega
     ·exact mono' (hint + m) i (by omega) hin hc⟩
   split
   ·exact wpS_pure ⟨rfl, rfl, cut _ h2 (.inl ‹_›)⟩
   ·rename_i hno
    refine wpS_bind (wpS_bey G (he (hint + o) (by omega)) (hd _ (by omega)) dk hk ?_)
    dsimp only
    cases c : byd lb left key (e (hint + o)) with
    | false => exact wpS_pure ⟨rfl, rfl, cut _ h2 (.inr c)⟩
    | true => exact wpS_pure ⟨rfl, rfl, by show k + 1 < 2 * o + 1; omega, by show o < 2 * o + 1; omega, by show hint + o < n; omega, c⟩
  case fin =>
   rintro ⟨r, l, o⟩ st' ⟨rfl, rfl, h1, h2, h3, h4⟩
   dsimp only at h1 h2 h3 h4 ⊢
   exact ⟨rfl, rfl, by omega, by omega, fun i hi => mono i (hint + l) (by omega) h3 h4, fun i hi hin => by omega⟩
  case post =>
   rintro ⟨r, l, o⟩ st' ⟨rfl, rfl, hc⟩
   dsimp only at hc ⊢
   refine wpS_bind (wpS_mono (wpS_forRange (I := fun k c st'' => st'' = st' /\ c.1 = none /\ c.2.2 - c.2.1 <= n - k /\ Cut (fun i => byd lb left key (e i)) n c.2.1 c.2.2)
    (Q := fun c st'' => st'' = st' /\ c.1 = none /\ c.2.2 <= c.2.1 /\ Cut (fun i => byd lb left key (e i)) n c.2.1 c.2.2) ?step ?fin ⟨rfl, rfl, by have := hc.2.1; dsimp only; omega, hc⟩) ?post)
   case step =>
    rintro k ⟨r, l, o⟩ st'' _ hkn ⟨rfl, rfl, h1, h2⟩
    dsimp only at h1 h2 ⊢
    obtain ⟨g1, g2, g3, g4⟩ := h2
    split
    ·exact wpS_pure ⟨rfl, rfl, ‹_›, g1, g2, g3, g4⟩
    ·have q : l + (o - l) / 2 < n := by omega
     refine wpS_bind (wpS_bey G (he _ q) (hd _ q) dk hk ?_)
     dsimp only
     cases c : byd lb left key (e (l + (o - l) / 2)) with
     | true => exact wpS_pure ⟨rfl, rfl, by dsimp only; omega, by dsimp only; omega, g2, fun i hi => mono i _ (by dsimp only at hi; omega) q c, g4⟩
     | false => exact wpS_pure ⟨rfl, rfl, by dsimp only; omega, by dsimp only; omega, by dsimp only; omega, g3, fun i hi hin => mono' _ i hi hin c⟩
   case fin =>
    rintro ⟨r, l, o⟩ st'' ⟨rfl, rfl, h1, h2⟩
    dsimp only at h1 h2 ⊢
    exact ⟨rfl, rfl, by omega, h2⟩
   case post =>
    rintro ⟨r, l, o⟩ st'' ⟨rfl, rfl, h1, g1, g2, g3, g4⟩
    dsimp only at h1 g1 g2 g3 g4 ⊢
    exact wpS_pure (h o g2 (fun i hi => g3 i (by omega)) g4)
 | false =>
  simp only [Bool.false_eq_true, if_false]
  refine wpS_bind (wpS_mono (wpS_forRange (I := fun k c st' => st' = st /\ c.1 = none /\ k < c.2.2 /\ c.2.1 < c.2.2 /\ c.2.1 <= hint /\ byd lb left key (e (hint - c.2.1)) = false)
   (Q := fun c st' => st' = st /\ c.1 = none /\ Cut (fun i => byd lb left key (e i)) n (hint + 1 - min c.2.2 (hint + 1)) (hint - c.2.1)) ?step ?fin ⟨rfl, rfl, by simp, by simp, by simp, by simpa using hP⟩) ?post)
  case step =>
   rintro k ⟨r, l, o⟩ st' _ hkn ⟨rfl, rfl, h1, h2, h3, h4⟩
   dsimp only at h1 h2 h3 h4 ⊢
   have cut : ∀ m, l < m -> (hint + 1 <= m \/ byd lb left key (e (hint - m)) = true) -> Cut (fun i => byd lb left key (e i)) n (hint + 1 - min m (hint + 1)) (hint - l) := fun m hm hc =>
    ⟨by omega, by omega, fun i hi => by
     rcases hc with hc | hc
     ·omega
     ·exact mono i (hint - m) (by omega) (by omega) hc, fun i hi hin => mono' (hint - l) i (by omega) hin h4⟩
   split
   ·exact wpS_pure ⟨rfl, rfl, cut _ h2 (.inl ‹_›)⟩
   ·rename_i hno
    refine wpS_bind (wpS_bey G (he (hint - o) (by omega)) (hd _ (by omega)) dk hk ?_)
    dsimp only
    cases c : byd lb left key (e (hint - o)) with
    | true => exact wpS_pure ⟨rfl, rfl, cut _ h2 (.inr c)⟩
    | false => exact wpS_pure ⟨rfl, rfl, by show k + 1 < 2 * o + 1; omega, by show o < 2 * o + 1; omega, by show o <= hint; omega, c⟩
  case fin =>
   rintro ⟨r, l, o⟩ st' ⟨rfl, rfl, h1, h2, h3, h4⟩
   dsimp only at h1 h2 h3 h4 ⊢
   exact ⟨rfl, rfl, by omega, by omega, fun i hi => by omega, fun i hi hin => mono' (hint - l) i (by omega) hin h4⟩
  case post =>
   rintro ⟨r, l, o⟩ st' ⟨rfl, rfl, hc⟩
   dsimp only at hc ⊢
   refine wpS_bind (wpS_mono (wpS_forRange (I := fun k c st'' => st'' = st' /\ c.1 = none /\ c.2.2 - c.2.1 <= n - k /\ Cut (fun i => byd lb left key (e i)) n c.2.1 c.2.2)
    (Q := fun c st'' => st'' = st' /\ c.1 = none /\ c.2.2 <= c.2.1 /\ Cut (fun i => byd lb left key (e i)) n c.2.1 c.2.2) ?step ?fin ⟨rfl, rfl, by have := hc.2.1; dsimp only; omega, hc⟩) ?post)
   case step =>
    rintro k ⟨r, l, o⟩ st'' _ hkn ⟨rfl, rfl, h1, h2⟩
    dsimp only at h1 h2 ⊢
    obtain ⟨g1, g2, g3, g4⟩ := h2
    split
    ·exact wpS_pure ⟨rfl, rfl, ‹_›, g1, g2, g3, g4⟩
    ·have q : l + (o - l) / 2 < n := by omega
     refine wpS_bind (wpS_bey G (he _ q) (hd _ q) dk hk ?_)
     dsimp only
     cases c : byd lb left key (e (l + (o - l) / 2)) with
     | true => exact wpS_pure ⟨rfl, rfl, by dsimp only; omega, by dsimp only; omega, g2, fun i hi => mono i _ (by dsimp only at hi; omega) q c, g4⟩
     | false => exact wpS_pure ⟨rfl, rfl, by dsimp only; omega, by dsimp only; omega, by dsimp only; omega, g3, fun i hi hin => mono' _ i hi hin c⟩
   case fin =>
    rintro ⟨r, l, o⟩ st'' ⟨rfl, rfl, h1, h2⟩
    dsimp only at h1 h2 ⊢
    exact ⟨rfl, rfl, by omega, h2⟩
   case post =>
    rintro ⟨r, l, o⟩ st'' ⟨rfl, rfl, h1, g1, g2, g3, g4⟩
    dsimp only at h1 g1 g2 g3 g4 ⊢
    exact wpS_pure (h o g2 (fun i hi => g3 i (by omega)) g4)
end
end TS
namespace TS
open PySem PyProof.Rows
section
variable {σ α X Y : Type} {M : Model} {A : Around} {E : Value -> Shared -> Prop} {s : Shared} {Q : α -> σ -> Prop} {st : σ}
theorem wpS_jp0 (jp : Unit -> StateT σ Sem α) {m : StateT σ Sem α} (P : σ -> Prop) (hv : ∀ st, P st -> wpS M A E s (jp ()) Q st) (hb : (∀ st, P st -> wpS M A E s (jp ()) Q st) -> wpS M A E s m Q st) : wpS M A E s m Q st := hb hv
theorem wpS_jpS (jp : Unit -> X -> StateT σ Sem α) {m : StateT σ Sem α} (P : X -> σ -> Prop) (hv : ∀ x st, P x st -> wpS M A E s (jp () x) Q st) (hb : (∀ x st, P x st -> wpS M A E s (jp () x) Q st) -> wpS M A E s m Q st) : wpS M A E s m Q st := hb hv
theorem wpS_jp1 (jp : Unit -> X -> StateT σ Sem α) {m : StateT σ Sem α} (P : X -> Prop) (hv : ∀ x, P x -> wpS M A E s (jp () x) Q st) (hb : (∀ x, P x -> wpS M A E s (jp () x) Q st) -> wpS M A E s m Q st) : wpS M A E s m Q st := hb hv
theorem wpS_jp2 (jp : Unit -> X -> Y -> StateT σ Sem α) {m : StateT σ Sem α} (P : X -> Y -> Prop) (hv : ∀ x y, P x y -> wpS M A E s (jp () x y) Q st) (hb : (∀ x y, P x y -> wpS M A E s (jp () x y) Q st) -> wpS M A E s m Q st) : wpS M A E s m Q st := hb hv
end
theorem ext_end (a : Array Keyed) (i : Nat) : (a.extract i a.size).toList = a.toList.drop i := by
 rw [Array.toList_extract, List.extract_eq_drop_take, List.take_of_length_le (by simp)]
theorem ext_to (a : Array Keyed) (i k : Nat) : (a.extract i (i + k)).toList = (a.toList.drop i).take k := by
 rw [Array.toList_extract, List.extract_eq_drop_take, Nat.add_sub_cancel_left]
theorem ext_from (a : Array Keyed) (n : Nat) : (a.extract 0 n).toList = a.toList.take n := by
 rw [Array.toList_extract, List.extract_eq_drop_take]; simp
abbrev Up (lb : Keyed -> Keyed -> Bool) (l : List Keyed) : Prop := l.Pairwise fun x y => lb y x = false
def Res (lb : Keyed -> Keyed -> Bool) (a b : List Keyed) (out : List Keyed) : Prop := out.Perm (a ++ b) /\ Up lb out
def Mg (lb : Keyed -> Keyed -> Bool) (a b : List Keyed) (out A B : List Keyed) : Prop := (out ++ (A ++ B)).Perm (a ++ b) /\ Up lb (out ++ A) /\ Up lb (out ++ B)
section
variable {lb : Keyed -> Keyed -> Bool} {a b out A B A1 A2 B1 B2 : List Keyed}
theorem Up.app {l r : List Keyed} : Up lb (l ++ r) ↔ Up lb l /\ Up lb r /\ ∀ x ∈ l, ∀ y ∈ r, lb y x = false := List.pairwise_append
theorem Mg.mvA (h : Mg lb a b out (A1 ++ A2) B) (hl : ∀ x ∈ A1, ∀ y ∈ B, lb y x = false) : Mg lb a b (out ++ A1) A2 B := by
 obtain ⟨h1, h2, h3⟩ := h
 refine ⟨by simpa using h1, by simpa using h2, ?_⟩
 rw [Up.app] at h3 ⊢
 rw [<- List.append_assoc] at h2
 refine ⟨(Up.app.mp h2).1, h3.2.1, fun x hx y hy => ?_⟩
 rcases List.mem_append.mp hx with hx | hx
 ·exact h3.2.2 x hx y hy
 ·exact hl x hx y hy
theorem Mg.mvB (h : Mg lb a b out A (B1 ++ B2)) (hl : ∀ x ∈ B1, ∀ y ∈ A, lb y x = false) : Mg lb a b (out ++ B1) A B2 := by
 obtain ⟨h1, h2, h3⟩ := h
 refine ⟨List.Perm.trans ?_ h1, ?_, by simpa using h3⟩
 ·rw [List.append_assoc]
  refine List.Perm.append_left _ ?_
  rw [<- List.append_assoc, <- List.append_assoc]
  exact List.Perm.append_right _ List.perm_append_comm
 ·rw [Up.app] at h2 ⊢
  rw [<- List.append_assoc] at h3
  refine ⟨(Up.app.mp h3).1, h2.2.1, fun x hx y hy => ?_⟩
  rcases List.mem_append.mp hx with hx | hx
  ·exact h2.2.2 x hx y hy
  ·exact hl x hx y hy
theorem Mg.done (h : Mg lb a b out A B) (he : A = [] \/ B = []) : Res lb a b (out ++ A ++ B) := by
 obtain ⟨h1, h2, h3⟩ := h
 refine ⟨by simpa using h1, ?_⟩
 rcases he with rfl | rfl
 ·simpa using h3
 ·simpa using h2
theorem Mg.last (h : Mg lb a b out A B) (hl : ∀ x ∈ B, ∀ y ∈ A, lb y x = false) : Res lb a b (out ++ B ++ A) := by
 have := (Mg.mvB (B1 := B) (B2 := []) (by simpa using h) hl).done (.inr rfl)
 simpa using this
theorem drop_cons {a : Array Keyed} {i : Nat} {x : Keyed} (h : a[i]? = some x) : a.toList.drop i = [x] ++ a.toList.drop (i + 1) := by
 have hi : i < a.toList.length := by
  rcases Nat.lt_or_ge i a.size with h' | h'
  ·simpa using h'
  ·rw [Array.getElem?_eq_none h'] at h; cases h
 rw [List.drop_eq_getElem_cons hi]
 have : a.toList[i] = x := by
  rw [Array.getElem?_eq_getElem (by simpa using hi)] at h
  simpa using h
 rw [this]; rfl
theorem at_ex {a : Array Keyed} {i : Nat} (h : i < a.size) : ∃ x, a[i]? = some x /\ x ∈ a.toList := ⟨a[i], by simp [h], by simp⟩
end
section
variable {prog : Program} {w : World} {A : Around} {E : Value -> Shared -> Prop} {s : Shared} {κ : SortKind} {D : Keyed -> Prop} {lb : Keyed -> Keyed -> Bool}
theorem wpS_gal (G : Asks prog w A E s κ D lb) {left : Bool} {key : Keyed} {arr : Array Keyed} {base n hint : Nat} {st : SortSt} {Q : Option Nat -> SortSt -> Prop} (seg : List Keyed) (hs : base + n <= arr.size)
  (hseg : (arr.toList.drop base).take n = seg) (hD : ∀ x ∈ seg, D x) (dk : D key) (hk : kindOf st = κ) (hh : hint < n) (srt : Up lb seg)
  (h : ∀ L R, seg = L ++ R -> (∀ x ∈ L, byd lb left key x = true) -> (∀ x ∈ R, byd lb left key x = false) -> Q (some L.length) st) :
  wpS (model prog w) A E s (gaP left key arr base n hint) Q st := by
 have hlen : seg.length = n := by rw [<- hseg]; simp; omega
 have ev : ∀ i (hi : i < n), seg.getD i (Value.none, Value.none) = seg[i]'(by omega) := fun i hi => by simp [hlen, hi]
 have srt' := List.pairwise_iff_getElem.mp srt
 refine wpS_gallop G (e := fun i => seg.getD i (Value.none, Value.none)) (fun i hi => ?_) (fun i hi => ?_) dk hk hh (fun i j hij hj hb => ?_) fun k hkn h1 h2 => ?_
 ·rw [ev i hi]
  subst hseg
  have : base + i < arr.size := by omega
  simp [this]
 ·rw [ev i hi]; exact hD _ (List.getElem_mem _)
 ·rcases Nat.lt_or_eq_of_le hij with hlt | rfl
  ·have q := srt' i j (by omega) (by omega) hlt
   rw [ev j hj] at hb
   rw [ev i (by omega)]
   unfold byd at hb ⊢
   cases left with
   | false =>
    simp only [Bool.false_eq_true, if_false, Bool.not_eq_true'] at hb ⊢
    exact G.tr q hb
   | true =>
    simp only [if_true] at hb ⊢
    cases c : lb seg[i] key with
    | true => rfl
    | false => rw [G.tr c q] at hb; cases hb
  ·exact hb
 ·have := h (seg.take k) (seg.drop k) (List.take_append_drop k seg).symm (fun x hx => ?_) fun x hx => ?_
  ·rwa [List.length_take, hlen, Nat.min_eq_left hkn] at this
  ·obtain ⟨i, hi, rfl⟩ := List.mem_iff_getElem.mp hx
   have hi' : i < k := by rw [List.length_take] at hi; omega
   have := h1 i hi'
   rw [ev i (by omega)] at this
   simpa using this
  ·obtain ⟨i, hi, rfl⟩ := List.mem_iff_getElem.mp hx
   have hi' : k + i < n := by rw [List.length_drop] at hi; omega
   have := h2 (k + i) (by omega) hi'
   rw [ev _ hi'] at this
   simpa using this
theorem wpS_ite {σ α : Type} {M : Model} {c : Prop} {dc : Decidable c} {m1 m2 : StateT σ Sem α} {Q : α -> σ -> Prop} {st : σ} (h1 : c -> wpS M A E s m1 Q st) (h2 : ¬ c -> wpS M A E s m2 Q st) : wpS M A E s (if c then m1 else m2) Q st := by
 by_cases h : c
 ·rw [if_pos h]; exact h1 h
 ·rw [if_neg h]; exact h2 h
abbrev setG (st : SortSt) (g : Nat) : SortSt := SortSt.mk' (kindOf st) (arrOf st) (pendingOf st) g (failedOf st)
theorem wpS_mg {g : Nat} {st : SortSt} {Q : Unit -> SortSt -> Prop} (h : Q () (setG st g)) : wpS (model prog w) A E s (mgP g) Q st := by
 exact wpS_modify h
theorem wpS_rule {r : String} {st : SortSt} {Q : Unit -> SortSt -> Prop} (h : Q () st) : wpS (model prog w) A E s (liftM (rule r) : StateT SortSt Sem Unit) Q st := wpS_lift (wpAny_rule ⟨rfl, h⟩)
end
end TS
namespace TS
open PySem PyProof.Rows
section
variable {prog : Program} {w : World} {A : Around} {E : Value -> Shared -> Prop} {s : Shared} {κ : SortKind} {D : Keyed -> Prop} {lb : Keyed -> Keyed -> Bool}
theorem wpS_lo (G : Asks prog w A E s κ D lb) {a b : Array Keyed} {st : SortSt} {Q : Array Keyed -> SortSt -> Prop} (hDa : ∀ x ∈ a.toList, D x) (hDb : ∀ x ∈ b.toList, D x) (sa : Up lb a.toList) (sb : Up lb b.toList)
  (na : 0 < a.size) (nb : 0 < b.size) (hfirst : ∀ y, b[0]? = some y -> ∀ x ∈ a.toList, lb x y = false) (hlast : ∀ x ∈ a.toList.drop (a.size - 1), ∀ y ∈ b.toList, lb x y = false) (hk : kindOf st = κ)
  (h : ∀ out g, Res lb a.toList b.toList out.toList -> Q out (setG st g)) : wpS (model prog w) A E s (loP a b) Q st := by
 have inA : ∀ i, ∀ x ∈ a.toList.drop i, x ∈ a.toList := fun i x hx => List.mem_of_mem_drop hx
 have inB : ∀ i, ∀ x ∈ b.toList.drop i, x ∈ b.toList := fun i x hx => List.mem_of_mem_drop hx
 have fdone : ∀ {out : Array Keyed} {ia ib : Nat}, Mg lb a.toList b.toList out.toList (a.toList.drop ia) (b.toList.drop ib) -> a.size <= ia \/ b.size <= ib ->
   Res lb a.toList b.toList (out ++ a.extract ia a.size ++ b.extract ib b.size).toList := fun m he => by
  rw [Array.toList_append, Array.toList_append, ext_end, ext_end]
  refine m.done (he.imp (fun q => ?_) fun q => ?_)
  ·exact List.drop_of_length_le (by simpa using q)
  ·exact List.drop_of_length_le (by simpa using q)
 have flast : ∀ {out : Array Keyed} {ia ib : Nat}, Mg lb a.toList b.toList out.toList (a.toList.drop ia) (b.toList.drop ib) -> ia + 1 = a.size ->
   Res lb a.toList b.toList (out ++ b.extract ib b.size ++ a.extract ia a.size).toList := fun {out ia ib} m he => by
  rw [Array.toList_append, Array.toList_append, ext_end, ext_end]
  refine m.last fun x hx y hy => hlast y ?_ x (inB _ x hx)
  rw [<- he]; exact hy
 obtain ⟨b0, e0, m0⟩ := at_ex nb
 unfold loP
 refine wpS_bind (wpS_rule ?_)
 extract_lets -underBinder
 dsimp -zeta -zetaHave +zetaDelta only
 refine wpS_bind (wpS_el e0 ?_)
 extract_lets -underBinder
 dsimp -zeta -zetaHave +zetaDelta only
 have hst : st = setG st (gallopOf st) := rfl
 have mg0 : Mg lb a.toList b.toList (#[b0] : Array Keyed).toList (a.toList.drop 0) (b.toList.drop 1) := by
  have e1 : b.toList = [b0] ++ b.toList.drop 1 := by
   have := drop_cons e0; rwa [List.drop_zero] at this
  refine ⟨?_, ?_, ?_⟩
  ·rw [List.drop_zero]
   show ([b0] ++ (a.toList ++ b.toList.drop 1)).Perm _
   conv => rhs; rw [e1]
   rw [<- List.append_assoc, <- List.append_assoc]
   exact List.Perm.append_right _ List.perm_append_comm
  ·rw [List.drop_zero]
   exact List.pairwise_cons.mpr ⟨fun x hx => hfirst b0 e0 x hx, sa⟩
  ·rw [e1] at sb; exact sb
 refine wpS_ite (fun hz => ?_) fun hz => ?_
 ·have hz : 1 = b.size := by simpa using hz
  rw [hst]
  exact wpS_pure (h _ _ (fdone mg0 (.inr (by omega))))
 have hz : 1 ≠ b.size := by simpa using hz
 refine wpS_ite (fun hy => ?_) fun hy => ?_
 ·have hy : 0 + 1 = a.size := by simpa using hy
  rw [hst]
  exact wpS_pure (h _ _ (flast mg0 hy))
 have hy : 1 ≠ a.size := by simpa using hy
 refine wpS_bind (wpS_get ?_)
 extract_lets -underBinder
 dsimp -zeta -zetaHave +zetaDelta only
 let Inv (out : Array Keyed) (ia ib : Nat) : Prop := Mg lb a.toList b.toList out.toList (a.toList.drop ia) (b.toList.drop ib) /\ ia + 1 < a.size /\ ib < b.size
 let Fin (r : Option (Array Keyed)) : Prop := ∃ out, r = some out /\ Res lb a.toList b.toList out.toList
 let Gs (st' : SortSt) : Prop := ∃ g, st' = setG st g
 have gk : ∀ {st'}, Gs st' -> kindOf st' = κ := fun hg => by obtain ⟨g, rfl⟩ := hg; exact hk
 refine wpS_bind (wpS_mono (wpS_forRange (I := fun k c st' => Gs st' /\ c.1 = none /\ Inv c.2.1 c.2.2.1 c.2.2.2.1 /\ (a.size - c.2.2.1) + (b.size - c.2.2.2.1) + k + 1 <= a.size + b.size)
  (Q := fun c st' => Gs st' /\ Fin c.1) ?step ?fin ⟨⟨_, hst⟩, rfl, ⟨mg0, by dsimp only; omega, by dsimp only; omega⟩, by dsimp only; omega⟩) ?post)
 case post =>
  rintro ⟨r, c⟩ st' ⟨⟨g, rfl⟩, out, rfl, hr⟩
  exact wpS_pure (h _ _ hr)
 case fin =>
  rintro ⟨r, out, ia, ib, mg⟩ st' ⟨_, _, ⟨_, h1, h2⟩, h3⟩
  dsimp only at h1 h2 h3
  omega
 case step =>
  rintro k ⟨r, out, ia, ib, mg⟩ st' _ hkn ⟨hg, rfl, hI, hrem⟩
  dsimp only at hI hrem
  extract_lets -underBinder
  dsimp -zeta -zetaHave +zetaDelta only
  refine wpS_bind (wpS_mono (wpS_forRange (I := fun k c st' => Gs st' /\ c.1 = none /\ Inv c.2.1 c.2.2.1 c.2.2.2.1 /\ (a.size - c.2.2.1) + (b.size - c.2.2.2.1) + min k 1 <= (a.size - ia) + (b.size - ib))
   (Q := fun c st' => Gs st' /\ (Fin c.1 \/ c.1 = none /\ Inv c.2.1 c.2.2.1 c.2.2.2.1 /\ (a.size - c.2.2.1) + (b.size - c.2.2.2.1) + 1 <= (a.size - ia) + (b.size - ib))) ?step ?fin ⟨hg, rfl, hI, by dsimp only; omega⟩) ?post)
  case fin =>
   rintro ⟨r, out, ia', ib', ac, bc⟩ st' ⟨g1, g2, g3, g4⟩
   dsimp only at g2 g3 g4
   exact ⟨g1, .inr ⟨g2, g3, by dsimp only; omega⟩⟩
  case step =>
   rintro k ⟨r, out, ia', ib', ac, bc⟩ st' _ hkn ⟨g1, rfl, ⟨g3, g4, g5⟩, g6⟩
   dsimp only at g3 g4 g5 g6
   extract_lets -underBinder
   dsimp -zeta -zetaHave +zetaDelta only
   obtain ⟨x, ex, mx⟩ := at_ex (a := a) (i := ia') (by omega)
   obtain ⟨y, ey, my⟩ := at_ex g5
   refine wpS_bind (wpS_el ey (wpS_bind (wpS_el ex (wpS_bind (G.ask (hDb y my) (hDa x mx) (gk g1) ?_)))))
   dsimp only
   have sA : Up lb (a.toList.drop ia') := (Up.app.mp g3.2.1).2.1
   have sB : Up lb (b.toList.drop ib') := (Up.app.mp g3.2.2).2.1
   rw [drop_cons ex] at sA
   rw [drop_cons ey] at sB
   cases c : lb y x with
   | true =>
    simp only [if_true]
    refine wpS_bind (wpS_el ey ?_)
    have m' : Mg lb a.toList b.toList (out.push y).toList (a.toList.drop ia') (b.toList.drop (ib' + 1)) := by
     rw [Array.toList_push]
     rw [drop_cons ey] at g3
     refine g3.mvB fun p hp q hq => ?_
     rw [List.mem_singleton] at hp; subst hp
     rw [drop_cons ex] at hq
     rcases List.mem_append.mp hq with hq | hq
     ·rw [List.mem_singleton] at hq; subst hq; exact G.as c
     ·exact G.tr (G.as c) ((Up.app.mp sA).2.2 x List.mem_cons_self q hq)
    refine wpS_ite (fun hz' => ?_) fun hz' => ?_
    ·have hz' : ib' + 1 = b.size := by simpa using hz'
     exact wpS_pure ⟨g1, .inl ⟨_, rfl, fdone m' (.inr (by omega))⟩⟩
    ·have hz' : ib' + 1 ≠ b.size := by simpa using hz'
     refine wpS_ite (fun _ => ?_) fun _ => ?_
     ·exact wpS_pure ⟨g1, .inr ⟨rfl, ⟨m', g4, by dsimp only; omega⟩, by dsimp only; omega⟩⟩
     ·exact wpS_pure ⟨g1, rfl, ⟨m', g4, by dsimp only; omega⟩, by dsimp only; omega⟩
   | false =>
    simp only [Bool.false_eq_true, if_false]
    refine wpS_bind (wpS_el ex ?_)
    have m' : Mg lb a.toList b.toList (out.push x).toList (a.toList.drop (ia' + 1)) (b.toList.drop ib') := by
     rw [Array.toList_push]
     rw [drop_cons ex] at g3
     refine g3.mvA fun p hp q hq => ?_
     rw [List.mem_singleton] at hp; subst hp
     rw [drop_cons ey] at hq
     rcases List.mem_append.mp hq with hq | hq
     ·rw [List.mem_singleton] at hq; subst hq; exact c
     ·exact G.tr c ((Up.app.mp sB).2.2 y List.mem_cons_self q hq)
    refine wpS_ite (fun hz' => ?_) fun hz' => ?_
    ·have hz' : ia' + 1 + 1 = a.size := by simpa using hz'
     exact wpS_pure ⟨g1, .inl ⟨_, rfl, flast m' hz'⟩⟩
    ·have hz' : ia' + 1 + 1 ≠ a.size := by simpa using hz'
     refine wpS_ite (fun _ => ?_) fun _ => ?_
     ·exact wpS_pure ⟨g1, .inr ⟨rfl, ⟨m', by dsimp only; omega, g5⟩, by dsimp only; omega⟩⟩
     ·exact wpS_pure ⟨g1, rfl, ⟨m', by dsimp only; omega, g5⟩, by dsimp only; omega⟩
  case post =>
   rintro ⟨r, out, ia', ib', ac, bc⟩ st' ⟨g1, g2⟩
   dsimp only at g2
   extract_lets -underBinder
   dsimp -zeta -zetaHave +zetaDelta only
   rcases g2 with ⟨o, rfl, ho⟩ | ⟨rfl, g3, g4⟩
   ·exact wpS_pure ⟨g1, _, rfl, ho⟩
   try dsimp -zeta -zetaHave only
   refine wpS_bind (wpS_rule ?_)
   refine wpS_bind (wpS_mono (wpS_forRange (I := fun k c st' => Gs st' /\ c.1 = none /\ Inv c.2.1 c.2.2.1 c.2.2.2.1 /\ (a.size - c.2.2.1) + (b.size - c.2.2.2.1) + 1 <= (a.size - ia) + (b.size - ib))
    (Q := fun c st' => Gs st' /\ (Fin c.1 \/ c.1 = none /\ Inv c.2.1 c.2.2.1 c.2.2.2.1 /\ (a.size - c.2.2.1) + (b.size - c.2.2.2.1) + 1 <= (a.size - ia) + (b.size - ib))) ?step ?fin ⟨g1, rfl, g3, g4⟩) ?post)
   case fin =>
    rintro ⟨r, out, ia', ib', ac, bc⟩ st' ⟨g1, g2, g3, g4⟩
    exact ⟨g1, .inr ⟨g2, g3, g4⟩⟩
   case post =>
    rintro ⟨r, out, ia', ib', mg', ac, bc⟩ st' ⟨g1, g2⟩
    dsimp only at g2
    dsimp only
    rcases g2 with ⟨o, rfl, ho⟩ | ⟨rfl, g3, g4⟩
    ·exact wpS_pure ⟨g1, _, rfl, ho⟩
    ·refine wpS_bind (wpS_mg (wpS_pure ⟨?_, rfl, g3, by dsimp only; omega⟩))
     obtain ⟨g, rfl⟩ := g1
     exact ⟨_, rfl⟩
   case step =>
    rintro k ⟨r, out, ia', ib', mg', ac, bc⟩ st' _ hkn ⟨g1, rfl, ⟨g3, g4, g5⟩, g6⟩
    dsimp only at g3 g4 g5 g6
    extract_lets -underBinder +onlyGivenNames z1 z2 z3 z4 z5 z6 z7 z8 z9 z10 z11
    dsimp -zeta -zetaHave +zetaDelta only
    obtain ⟨y, ey, my⟩ := at_ex g5
    have sB : Up lb (b.toList.drop ib') := (Up.app.mp g3.2.2).2.1
    have sA : Up lb (a.toList.drop ia') := (Up.app.mp g3.2.1).2.1
    rw [drop_cons ey] at sB
    extract_lets -underBinder +onlyGivenNames jp1
    refine wpS_jp1 jp1 (fun _ => True) (fun g _ => ?hv1) fun hjp => ?hb1
    case hb1 =>
     clear_value jp1
     exact wpS_ite (fun _ => hjp _ trivial) fun _ => hjp _ trivial
    dsimp -zeta -zetaHave only [jp1]
    refine wpS_bind (wpS_mg ?_)
    have g1' : Gs (setG st' g) := by obtain ⟨g0, rfl⟩ := g1; exact ⟨_, rfl⟩
    refine wpS_bind (wpS_el ey ?_)
    refine wpS_bind (wpS_gal G (a.toList.drop ia') (by omega) (by rw [List.take_of_length_le (by simp)]) (fun x hx => hDa x (inA _ x hx)) (hDb y my) (gk g1') (by omega) sA fun L R hLR hL hR => ?_)
    have hlb : ∀ x ∈ L, ∀ z ∈ b.toList.drop ib', lb z x = false := fun x hx z hz => by
     have q : lb y x = false := by have := hL x hx; simpa [byd] using this
     rw [drop_cons ey] at hz
     rcases List.mem_append.mp hz with hz | hz
     ·rw [List.mem_singleton] at hz; subst hz; exact q
     ·exact G.tr q ((Up.app.mp sB).2.2 y List.mem_cons_self z hz)
    have hra : ∀ x ∈ R, lb x y = false := fun x hx => G.as (by have := hR x hx; simpa [byd] using this)
    have eR : a.toList.drop (ia' + L.length) = R := by rw [<- List.drop_drop, hLR, List.drop_left]
    have eL : (a.toList.drop ia').take L.length = L := by rw [hLR, List.take_left]
    have m1 : Mg lb a.toList b.toList (out ++ a.extract ia' (ia' + L.length)).toList (a.toList.drop (ia' + L.length)) (b.toList.drop ib') := by
     rw [Array.toList_append, ext_to, eL, eR]
     rw [hLR] at g3
     exact g3.mvA hlb
    have lL : L.length <= a.size - ia' := by
     have := congrArg List.length hLR
     simp at this; omega
    dsimp -zeta -zetaHave only
    extract_lets -underBinder +onlyGivenNames y1
    dsimp -zeta -zetaHave only [y1]
    extract_lets -underBinder +onlyGivenNames jp2
    refine wpS_jp2 jp2 (fun out ia2 => Mg lb a.toList b.toList (Array.toList out) (a.toList.drop ia2) (b.toList.drop ib') /\ a.toList.drop ia2 = R /\ ia2 + 1 < a.size /\ ia' <= ia2) (fun out ia2 ⟨m2, e2, l2, le2⟩ => ?hv2) fun hjp => ?hb2
    case hb2 =>
     clear_value jp2
     dsimp only
     refine wpS_ite (fun hk0 => wpS_ite (fun he => ?_) fun he => wpS_ite (fun hf => ?_) fun hf => ?_) fun hk0 => ?_
     ·exact wpS_pure ⟨g1', .inl ⟨_, rfl, flast m1 (by simpa using he)⟩⟩
     ·have hf : ia' + L.length = a.size := by simpa using hf
      exact wpS_pure ⟨g1', .inl ⟨_, rfl, fdone m1 (.inl (by omega))⟩⟩
     ·have hf : ia' + L.length ≠ a.size := by simpa using hf
      have he : ia' + L.length + 1 ≠ a.size := by simpa using he
      exact hjp _ _ ⟨m1, eR, by omega, by omega⟩
     ·have h0 : L.length = 0 := by omega
      rw [h0] at eR
      exact hjp _ _ ⟨g3, eR, g4, by omega⟩
    ·dsimp -zeta -zetaHave only [jp2]
     refine wpS_bind (wpS_el ey ?_)
     extract_lets -underBinder
     dsimp -zeta -zetaHave +zetaDelta only
     have m3 : Mg lb a.toList b.toList (out.push y).toList (a.toList.drop ia2) (b.toList.drop (ib' + 1)) := by
      rw [Array.toList_push]
      rw [drop_cons ey] at m2
      refine m2.mvB fun p hp q hq => ?_
      rw [List.mem_singleton] at hp; subst hp
      rw [e2] at hq
      exact hra q hq
     refine wpS_ite (fun hz' => ?_) fun hz' => ?_
     ·have hz' : ib' + 1 = b.size := by simpa using hz'
      exact wpS_pure ⟨g1', .inl ⟨_, rfl, fdone m3 (.inr (by omega))⟩⟩
     have hz' : ib' + 1 ≠ b.size := by simpa using hz'
     obtain ⟨x, ex, mx⟩ := at_ex (a := a) (i := ia2) (by omega)
     have sA2 : Up lb (a.toList.drop ia2) := (Up.app.mp m2.2.1).2.1
     rw [drop_cons ex] at sA2
     refine wpS_bind (wpS_el ex ?_)
     refine wpS_bind (wpS_gal G (b.toList.drop (ib' + 1)) (by omega) (by rw [List.take_of_length_le (by simp)]) (fun x hx => hDb x (inB _ x hx)) (hDa x mx) (gk g1') (by omega) (Up.app.mp m3.2.2).2.1 fun L' R' hLR' hL' hR' => ?_)
     have hla : ∀ z ∈ L', ∀ q ∈ a.toList.drop ia2, lb q z = false := fun z hz q hq => by
      have c : lb z x = true := by have := hL' z hz; simpa [byd] using this
      rw [drop_cons ex] at hq
      rcases List.mem_append.mp hq with hq | hq
      ·rw [List.mem_singleton] at hq; subst hq; exact G.as c
      ·exact G.tr (G.as c) ((Up.app.mp sA2).2.2 x List.mem_cons_self q hq)
     have hrb : ∀ z ∈ R', lb z x = false := fun z hz => by have := hR' z hz; simpa [byd] using this
     have eR' : b.toList.drop (ib' + 1 + L'.length) = R' := by rw [<- List.drop_drop, hLR', List.drop_left]
     have eL' : (b.toList.drop (ib' + 1)).take L'.length = L' := by rw [hLR', List.take_left]
     have m4 : Mg lb a.toList b.toList (out.push y ++ b.extract (ib' + 1) (ib' + 1 + L'.length)).toList (a.toList.drop ia2) (b.toList.drop (ib' + 1 + L'.length)) := by
      rw [Array.toList_append, ext_to, eL', eR']
      rw [hLR'] at m3
      exact m3.mvB hla
     have lL' : L'.length <= b.size - (ib' + 1) := by
      have := congrArg List.length hLR'
      simp at this; omega
     dsimp -zeta -zetaHave only
     extract_lets -underBinder +onlyGivenNames y2
     dsimp -zeta -zetaHave only [y2]
     extract_lets -underBinder +onlyGivenNames jp3
     refine wpS_jp2 jp3 (fun out ib2 => Mg lb a.toList b.toList (Array.toList out) (a.toList.drop ia2) (b.toList.drop ib2) /\ b.toList.drop ib2 = R' /\ ib2 < b.size /\ ib' + 1 <= ib2) (fun out ib2 ⟨m5, e5, l5, le5⟩ => ?hv3) fun hjp => ?hb3
     case hb3 =>
      clear_value jp3
      dsimp only
      refine wpS_ite (fun hk1 => wpS_ite (fun he => ?_) fun he => ?_) fun hk1 => ?_
      ·have he : ib' + 1 + L'.length = b.size := by simpa using he
       exact wpS_pure ⟨g1', .inl ⟨_, rfl, fdone m4 (.inr (by omega))⟩⟩
      ·have he : ib' + 1 + L'.length ≠ b.size := by simpa using he
       exact hjp _ _ ⟨m4, eR', by omega, by omega⟩
      ·have h0 : L'.length = 0 := by omega
       rw [h0] at eR'
       exact hjp _ _ ⟨m3, eR', by omega, by omega⟩
     ·dsimp only [jp3]
      refine wpS_bind (wpS_el ex ?_)
      have m6 : Mg lb a.toList b.toList (out.push x).toList (a.toList.drop (ia2 + 1)) (b.toList.drop ib2) := by
       rw [Array.toList_push]
       rw [drop_cons ex] at m5
       refine m5.mvA fun p hp q hq => ?_
       rw [List.mem_singleton] at hp; subst hp
       rw [e5] at hq
       exact hrb q hq
      refine wpS_ite (fun hz => wpS_pure ⟨g1', .inl ⟨_, rfl, flast m6 (by simpa using hz)⟩⟩) fun hz => ?_
      have hz : ia2 + 1 + 1 ≠ a.size := by simpa using hz
      exact wpS_ite (fun _ => wpS_pure ⟨g1', .inr ⟨rfl, ⟨m6, by dsimp only; omega, l5⟩, by dsimp only; omega⟩⟩) fun _ => wpS_pure ⟨g1', rfl, ⟨m6, by dsimp only; omega, l5⟩, by dsimp only; omega⟩
end
end TS
namespace TS
open PySem PyProof.Rows
def Mh (lb : Keyed -> Keyed -> Bool) (a b : List Keyed) (out A B : List Keyed) : Prop := (A ++ B ++ out).Perm (a ++ b) /\ Up lb (A ++ out) /\ Up lb (B ++ out)
section
variable {lb : Keyed -> Keyed -> Bool} {a b out A B A1 A2 B1 B2 : List Keyed}
theorem Mh.mvA (h : Mh lb a b out (A1 ++ A2) B) (hl : ∀ x ∈ B, ∀ y ∈ A2, lb y x = false) : Mh lb a b (A2 ++ out) A1 B := by
 obtain ⟨h1, h2, h3⟩ := h
 refine ⟨List.Perm.trans ?_ h1, by simpa using h2, ?_⟩
 ·rw [<- List.append_assoc]
  refine List.Perm.append_right _ ?_
  rw [List.append_assoc, List.append_assoc]
  exact List.Perm.append_left _ List.perm_append_comm
 ·rw [Up.app] at h3 ⊢
  rw [List.append_assoc] at h2
  refine ⟨h3.1, (Up.app.mp h2).2.1, fun x hx y hy => ?_⟩
  rcases List.mem_append.mp hy with hy | hy
  ·exact hl x hx y hy
  ·exact h3.2.2 x hx y hy
theorem Mh.mvB (h : Mh lb a b out A (B1 ++ B2)) (hl : ∀ x ∈ A, ∀ y ∈ B2, lb y x = false) : Mh lb a b (B2 ++ out) A B1 := by
 obtain ⟨h1, h2, h3⟩ := h
 refine ⟨by simpa using h1, ?_, by simpa using h3⟩
 rw [Up.app] at h2 ⊢
 rw [List.append_assoc] at h3
 refine ⟨h2.1, (Up.app.mp h3).2.1, fun x hx y hy => ?_⟩
 rcases List.mem_append.mp hy with hy | hy
 ·exact hl x hx y hy
 ·exact h2.2.2 x hx y hy
theorem Mh.done (h : Mh lb a b out A B) (he : A = [] \/ B = []) : Res lb a b (A ++ B ++ out) := by
 obtain ⟨h1, h2, h3⟩ := h
 refine ⟨h1, ?_⟩
 rcases he with rfl | rfl
 ·simpa using h3
 ·simpa using h2
theorem Mh.first (h : Mh lb a b out A B) (hl : ∀ x ∈ B, ∀ y ∈ A, lb y x = false) : Res lb a b (B ++ A ++ out) := by
 have := (Mh.mvA (A1 := []) (A2 := A) (by simpa using h) hl).done (.inl rfl)
 simpa using this
theorem take_snoc {a : Array Keyed} {i : Nat} {x : Keyed} (h : a[i]? = some x) : a.toList.take (i + 1) = a.toList.take i ++ [x] := by
 rw [List.take_add_one]
 have : a.toList[i]? = some x := by simpa using h
 rw [this]; rfl
end
section
variable {prog : Program} {w : World} {A : Around} {E : Value -> Shared -> Prop} {s : Shared} {κ : SortKind} {D : Keyed -> Prop} {lb : Keyed -> Keyed -> Bool}
theorem wpS_hi (G : Asks prog w A E s κ D lb) {a b : Array Keyed} {st : SortSt} {Q : Array Keyed -> SortSt -> Prop} (hDa : ∀ x ∈ a.toList, D x) (hDb : ∀ x ∈ b.toList, D x) (sa : Up lb a.toList) (sb : Up lb b.toList)
  (na : 0 < a.size) (nb : 0 < b.size) (hfirst : ∀ y ∈ b.toList.take 1, ∀ x ∈ a.toList, lb x y = false) (hlast : ∀ x, a[a.size - 1]? = some x -> ∀ y ∈ b.toList, lb x y = false) (hk : kindOf st = κ)
  (h : ∀ out g, Res lb a.toList b.toList out.toList -> Q out (setG st g)) : wpS (model prog w) A E s (hiP a b) Q st := by
 have inA : ∀ i, ∀ x ∈ a.toList.take i, x ∈ a.toList := fun i x hx => List.mem_of_mem_take hx
 have inB : ∀ i, ∀ x ∈ b.toList.take i, x ∈ b.toList := fun i x hx => List.mem_of_mem_take hx
 have fdone : ∀ {out : Array Keyed} {ia ib : Nat}, Mh lb a.toList b.toList out.toList.reverse (a.toList.take ia) (b.toList.take ib) -> ia = 0 \/ ib = 0 ->
   Res lb a.toList b.toList (a.extract 0 ia ++ b.extract 0 ib ++ out.reverse).toList := fun m he => by
  rw [Array.toList_append, Array.toList_append, ext_from, ext_from, Array.toList_reverse]
  refine m.done (he.imp (fun q => ?_) fun q => ?_) <;> rw [q, List.take_zero]
 have ffirst : ∀ {out : Array Keyed} {ia ib : Nat}, Mh lb a.toList b.toList out.toList.reverse (a.toList.take ia) (b.toList.take ib) -> ib = 1 ->
   Res lb a.toList b.toList (b.extract 0 ib ++ a.extract 0 ia ++ out.reverse).toList := fun {out ia ib} m he => by
  rw [Array.toList_append, Array.toList_append, ext_from, ext_from, Array.toList_reverse]
  subst he
  exact m.first fun x hx y hy => hfirst x hx y (inA _ y hy)
 obtain ⟨a0, e0, m0⟩ := at_ex (a := a) (i := a.size - 1) (by omega)
 unfold hiP
 refine wpS_bind (wpS_rule ?_)
 extract_lets -underBinder
 dsimp -zeta -zetaHave +zetaDelta only
 refine wpS_bind (wpS_el e0 ?_)
 extract_lets -underBinder
 dsimp -zeta -zetaHave +zetaDelta only
 have hst : st = setG st (gallopOf st) := rfl
 have mg0 : Mh lb a.toList b.toList (#[a0] : Array Keyed).toList.reverse (a.toList.take (a.size - 1)) (b.toList.take b.size) := by
  have e1 : a.toList = a.toList.take (a.size - 1) ++ [a0] := by
   have := take_snoc e0
   rw [show a.size - 1 + 1 = a.size by omega, List.take_of_length_le (by simp)] at this
   exact this
  have e2 : b.toList.take b.size = b.toList := List.take_of_length_le (by simp)
  rw [e2]
  refine ⟨?_, ?_, ?_⟩
  ·show ((a.toList.take (a.size - 1) ++ b.toList) ++ [a0]).Perm _
   conv => rhs; rw [e1]
   rw [List.append_assoc, List.append_assoc]
   exact List.Perm.append_left _ List.perm_append_comm
  ·show Up lb (a.toList.take (a.size - 1) ++ [a0])
   rw [<- e1]; exact sa
  ·show Up lb (b.toList ++ [a0])
   rw [Up.app]
   refine ⟨sb, List.pairwise_singleton _ _, fun x hx y hy => ?_⟩
   rw [List.mem_singleton] at hy; subst hy
   exact hlast _ e0 x hx
 refine wpS_ite (fun hz => ?_) fun hz => ?_
 ·have hz : a.size - 1 = 0 := by simpa using hz
  rw [hst]
  exact wpS_pure (h _ _ (fdone mg0 (.inl hz)))
 have hz : a.size - 1 ≠ 0 := by simpa using hz
 refine wpS_ite (fun hy => ?_) fun hy => ?_
 ·have hy : b.size = 1 := by simpa using hy
  rw [hst]
  exact wpS_pure (h _ _ (ffirst mg0 hy))
 have hy : b.size ≠ 1 := by simpa using hy
 refine wpS_bind (wpS_get ?_)
 extract_lets -underBinder
 dsimp -zeta -zetaHave +zetaDelta only
 let Inv (ia ib : Nat) (out : Array Keyed) : Prop := Mh lb a.toList b.toList out.toList.reverse (a.toList.take ia) (b.toList.take ib) /\ 1 <= ia /\ ia <= a.size /\ 2 <= ib /\ ib <= b.size
 let Fin (r : Option (Array Keyed)) : Prop := ∃ out, r = some out /\ Res lb a.toList b.toList out.toList
 let Gs (st' : SortSt) : Prop := ∃ g, st' = setG st g
 have gk : ∀ {st'}, Gs st' -> kindOf st' = κ := fun hg => by obtain ⟨g, rfl⟩ := hg; exact hk
 refine wpS_bind (wpS_mono (wpS_forRange (I := fun k c st' => Gs st' /\ c.1 = none /\ Inv c.2.1 c.2.2.1 c.2.2.2.1 /\ c.2.1 + c.2.2.1 + k + 1 <= a.size + b.size)
  (Q := fun c st' => Gs st' /\ Fin c.1) ?step ?fin ⟨⟨_, hst⟩, rfl, ⟨mg0, by dsimp only; omega, by dsimp only; omega, by dsimp only; omega, by dsimp only; omega⟩, by dsimp only; omega⟩) ?post)
 case post =>
  rintro ⟨r, c⟩ st' ⟨⟨g, rfl⟩, out, rfl, hr⟩
  exact wpS_pure (h _ _ hr)
 case fin =>
  rintro ⟨r, ia, ib, out, mg⟩ st' ⟨_, _, ⟨_, h1, h2, h4, h5⟩, h3⟩
  dsimp only at h1 h2 h3 h4
  omega
 case step =>
  rintro k ⟨r, ia, ib, out, mg⟩ st' _ hkn ⟨hg, rfl, hI, hrem⟩
  dsimp only at hI hrem
  extract_lets -underBinder
  dsimp -zeta -zetaHave +zetaDelta only
  refine wpS_bind (wpS_mono (wpS_forRange (I := fun k c st' => Gs st' /\ c.1 = none /\ Inv c.2.1 c.2.2.1 c.2.2.2.1 /\ c.2.1 + c.2.2.1 + min k 1 <= ia + ib)
   (Q := fun c st' => Gs st' /\ (Fin c.1 \/ c.1 = none /\ Inv c.2.1 c.2.2.1 c.2.2.2.1 /\ c.2.1 + c.2.2.1 + 1 <= ia + ib)) ?step ?fin ⟨hg, rfl, hI, by dsimp only; omega⟩) ?post)
  case fin =>
   rintro ⟨r, ia', ib', out, ac, bc⟩ st' ⟨g1, g2, g3, g4⟩
   dsimp only at g2 g3 g4
   exact ⟨g1, .inr ⟨g2, g3, by dsimp only; omega⟩⟩
  case step =>
   rintro k ⟨r, ia', ib', out, ac, bc⟩ st' _ hkn ⟨g1, rfl, ⟨g3, g4, g4', g5, g5'⟩, g6⟩
   dsimp only at g3 g4 g4' g5 g5' g6
   extract_lets -underBinder
   dsimp -zeta -zetaHave +zetaDelta only
   obtain ⟨x, ex, mx⟩ := at_ex (a := a) (i := ia' - 1) (by omega)
   obtain ⟨y, ey, my⟩ := at_ex (a := b) (i := ib' - 1) (by omega)
   have tx := take_snoc ex
   have ty := take_snoc ey
   rw [show ia' - 1 + 1 = ia' by omega] at tx
   rw [show ib' - 1 + 1 = ib' by omega] at ty
   refine wpS_bind (wpS_el ey (wpS_bind (wpS_el ex (wpS_bind (G.ask (hDb y my) (hDa x mx) (gk g1) ?_)))))
   dsimp only
   have sA : Up lb (a.toList.take ia') := (Up.app.mp g3.2.1).1
   have sB : Up lb (b.toList.take ib') := (Up.app.mp g3.2.2).1
   rw [tx] at sA
   rw [ty] at sB
   cases c : lb y x with
   | true =>
    simp only [if_true]
    refine wpS_bind (wpS_el ex ?_)
    have m' : Mh lb a.toList b.toList (out.push x).toList.reverse (a.toList.take (ia' - 1)) (b.toList.take ib') := by
     rw [Array.toList_push, List.reverse_append]
     rw [tx] at g3
     refine g3.mvA fun p hp q hq => ?_
     rw [List.mem_singleton] at hq; subst hq
     rw [ty] at hp
     rcases List.mem_append.mp hp with hp | hp
     ·exact G.tr ((Up.app.mp sB).2.2 p hp y List.mem_cons_self) (G.as c)
     ·rw [List.mem_singleton] at hp; subst hp; exact G.as c
    refine wpS_ite (fun hz' => ?_) fun hz' => ?_
    ·have hz' : ia' - 1 = 0 := by simpa using hz'
     exact wpS_pure ⟨g1, .inl ⟨_, rfl, fdone m' (.inl hz')⟩⟩
    ·have hz' : ia' - 1 ≠ 0 := by simpa using hz'
     refine wpS_ite (fun _ => ?_) fun _ => ?_
     ·exact wpS_pure ⟨g1, .inr ⟨rfl, ⟨m', by dsimp only; omega, by dsimp only; omega, g5, g5'⟩, by dsimp only; omega⟩⟩
     ·exact wpS_pure ⟨g1, rfl, ⟨m', by dsimp only; omega, by dsimp only; omega, g5, g5'⟩, by dsimp only; omega⟩
   | false =>
    simp only [Bool.false_eq_true, if_false]
    refine wpS_bind (wpS_el ey ?_)
    have m' : Mh lb a.toList b.toList (out.push y).toList.reverse (a.toList.take ia') (b.toList.take (ib' - 1)) := by
     rw [Array.toList_push, List.reverse_append]
     rw [ty] at g3
     refine g3.mvB fun p hp q hq => ?_
     rw [List.mem_singleton] at hq; subst hq
     rw [tx] at hp
     rcases List.mem_append.mp hp with hp | hp
     ·exact G.tr ((Up.app.mp sA).2.2 p hp x List.mem_cons_self) c
     ·rw [List.mem_singleton] at hp; subst hp; exact c
    refine wpS_ite (fun hz' => ?_) fun hz' => ?_
    ·have hz' : ib' - 1 = 1 := by simpa using hz'
     exact wpS_pure ⟨g1, .inl ⟨_, rfl, ffirst m' hz'⟩⟩
    ·have hz' : ib' - 1 ≠ 1 := by simpa using hz'
     refine wpS_ite (fun _ => ?_) fun _ => ?_
     ·exact wpS_pure ⟨g1, .inr ⟨rfl, ⟨m', g4, g4', by dsimp only; omega, by dsimp only; omega⟩, by dsimp only; omega⟩⟩
     ·exact wpS_pure ⟨g1, rfl, ⟨m', g4, g4', by dsimp only; omega, by dsimp only; omega⟩, by dsimp only; omega⟩
  case post =>
   rintro ⟨r, ia', ib', out, ac, bc⟩ st' ⟨g1, g2⟩
   dsimp only at g2
   extract_lets -underBinder
   dsimp -zeta -zetaHave +zetaDelta only
   rcases g2 with ⟨o, rfl, ho⟩ | ⟨rfl, g3, g4⟩
   ·exact wpS_pure ⟨g1, _, rfl, ho⟩
   try dsimp -zeta -zetaHave only
   refine wpS_bind (wpS_rule ?_)
   refine wpS_bind (wpS_mono (wpS_forRange (I := fun k c st' => Gs st' /\ c.1 = none /\ Inv c.2.1 c.2.2.1 c.2.2.2.1 /\ c.2.1 + c.2.2.1 + 1 <= ia + ib)
    (Q := fun c st' => Gs st' /\ (Fin c.1 \/ c.1 = none /\ Inv c.2.1 c.2.2.1 c.2.2.2.1 /\ c.2.1 + c.2.2.1 + 1 <= ia + ib)) ?step ?fin ⟨g1, rfl, g3, g4⟩) ?post)
   case fin =>
    rintro ⟨r, ia', ib', out, mg', ac, bc⟩ st' ⟨g1, g2, g3, g4⟩
    exact ⟨g1, .inr ⟨g2, g3, g4⟩⟩
   case post =>
    rintro ⟨r, ia', ib', out, mg', ac, bc⟩ st' ⟨g1, g2⟩
    dsimp only at g2
    dsimp only
    rcases g2 with ⟨o, rfl, ho⟩ | ⟨rfl, g3, g4⟩
    ·exact wpS_pure ⟨g1, _, rfl, ho⟩
    ·refine wpS_bind (wpS_mg (wpS_pure ⟨?_, rfl, g3, by dsimp only; omega⟩))
     obtain ⟨g, rfl⟩ := g1
     exact ⟨_, rfl⟩
   case step =>
    rintro k ⟨r, ia', ib', out, mg', ac, bc⟩ st' _ hkn ⟨g1, rfl, ⟨g3, g4, g4', g5, g5'⟩, g6⟩
    dsimp only at g3 g4 g4' g5 g5' g6
    extract_lets -underBinder +onlyGivenNames z1 z2 z3 z4 z5 z6 z7 z8 z9 z10 z11
    dsimp -zeta -zetaHave +zetaDelta only
    obtain ⟨y, ey, my⟩ := at_ex (a := b) (i := ib' - 1) (by omega)
    have ty := take_snoc ey
    rw [show ib' - 1 + 1 = ib' by omega] at ty
    have sB : Up lb (b.toList.take ib') := (Up.app.mp g3.2.2).1
    have sA : Up lb (a.toList.take ia') := (Up.app.mp g3.2.1).1
    rw [ty] at sB
    extract_lets -underBinder +onlyGivenNames jp1
    refine wpS_jp1 jp1 (fun _ => True) (fun g _ => ?hv1) fun hjp => ?hb1
    case hb1 =>
     clear_value jp1
     exact wpS_ite (fun _ => hjp _ trivial) fun _ => hjp _ trivial
    dsimp -zeta -zetaHave only [jp1]
    refine wpS_bind (wpS_mg ?_)
    have g1' : Gs (setG st' g) := by obtain ⟨g0, rfl⟩ := g1; exact ⟨_, rfl⟩
    refine wpS_bind (wpS_el ey ?_)
    refine wpS_bind (wpS_gal G (a.toList.take ia') (by omega) (by rw [List.drop_zero]) (fun x hx => hDa x (inA _ x hx)) (hDb y my) (gk g1') (by omega) sA fun L R hLR hL hR => ?_)
    have hlb : ∀ z ∈ b.toList.take ib', ∀ x ∈ R, lb x z = false := fun z hz x hx => by
     have q : lb x y = false := G.as (by have := hR x hx; simpa [byd] using this)
     rw [ty] at hz
     rcases List.mem_append.mp hz with hz | hz
     ·exact G.tr ((Up.app.mp sB).2.2 z hz y List.mem_cons_self) q
     ·rw [List.mem_singleton] at hz; subst hz; exact q
    have hra : ∀ x ∈ L, lb y x = false := fun x hx => by have := hL x hx; simpa [byd] using this
    have lL : L.length + R.length = ia' := by
     have := congrArg List.length hLR
     simp at this; omega
    have eL : a.toList.take L.length = L := by
     have := congrArg (List.take L.length) hLR
     rw [List.take_left, List.take_take, Nat.min_eq_left (by omega)] at this
     exact this
    have eR : (a.extract L.length ia').toList = R := by
     rw [show ia' = L.length + (ia' - L.length) by omega, ext_to]
     have := congrArg (List.drop L.length) hLR
     rw [List.drop_left, List.drop_take] at this
     exact this
    have m1 : Mh lb a.toList b.toList (out ++ (a.extract L.length ia').reverse).toList.reverse (a.toList.take L.length) (b.toList.take ib') := by
     rw [Array.toList_append, List.reverse_append, Array.toList_reverse, List.reverse_reverse, eR, eL]
     rw [hLR] at g3
     exact g3.mvA hlb
    dsimp -zeta -zetaHave only
    extract_lets -underBinder +onlyGivenNames y1 y1b
    dsimp -zeta -zetaHave only [y1, y1b]
    extract_lets -underBinder +onlyGivenNames jp2
    refine wpS_jp2 jp2 (fun ia2 out => Mh lb a.toList b.toList (Array.toList out).reverse (a.toList.take ia2) (b.toList.take ib') /\ a.toList.take ia2 = L /\ 1 <= ia2 /\ ia2 <= ia') (fun ia2 out ⟨m2, e2, l2, le2⟩ => ?hv2) fun hjp => ?hb2
    case hb2 =>
     clear_value jp2
     dsimp only
     refine wpS_ite (fun hk0 => wpS_ite (fun he => ?_) fun he => ?_) fun hk0 => ?_
     ·exact wpS_pure ⟨g1', .inl ⟨_, rfl, fdone m1 (.inl (by simpa using he))⟩⟩
     ·have he : L.length ≠ 0 := by simpa using he
      exact hjp _ _ ⟨m1, eL, by omega, by omega⟩
     ·have h0 : L.length = ia' := by omega
      exact hjp _ _ ⟨g3, by rw [<- h0]; exact eL, g4, by omega⟩
    ·dsimp -zeta -zetaHave only [jp2]
     extract_lets -underBinder
     dsimp -zeta -zetaHave +zetaDelta only
     refine wpS_bind (wpS_el ey ?_)
     extract_lets -underBinder
     dsimp -zeta -zetaHave +zetaDelta only
     have m3 : Mh lb a.toList b.toList (out.push y).toList.reverse (a.toList.take ia2) (b.toList.take (ib' - 1)) := by
      rw [Array.toList_push, List.reverse_append]
      rw [ty] at m2
      refine m2.mvB fun p hp q hq => ?_
      rw [List.mem_singleton] at hq; subst hq
      rw [e2] at hp
      exact hra p hp
     refine wpS_ite (fun hz' => ?_) fun hz' => ?_
     ·have hz' : ib' - 1 = 1 := by simpa using hz'
      exact wpS_pure ⟨g1', .inl ⟨_, rfl, ffirst m3 hz'⟩⟩
     have hz' : ib' - 1 ≠ 1 := by simpa using hz'
     obtain ⟨x, ex, mx⟩ := at_ex (a := a) (i := ia2 - 1) (by omega)
     have tx := take_snoc ex
     rw [show ia2 - 1 + 1 = ia2 by omega] at tx
     have sA2 : Up lb (a.toList.take ia2) := (Up.app.mp m2.2.1).1
     rw [tx] at sA2
     refine wpS_bind (wpS_el ex ?_)
     refine wpS_bind (wpS_gal G (b.toList.take (ib' - 1)) (by omega) (by rw [List.drop_zero]) (fun x hx => hDb x (inB _ x hx)) (hDa x mx) (gk g1') (by omega) (Up.app.mp m3.2.2).1 fun L' R' hLR' hL' hR' => ?_)
     have hla : ∀ q ∈ a.toList.take ia2, ∀ z ∈ R', lb z q = false := fun q hq z hz => by
      have c : lb z x = false := by have := hR' z hz; simpa [byd] using this
      rw [tx] at hq
      rcases List.mem_append.mp hq with hq | hq
      ·exact G.tr ((Up.app.mp sA2).2.2 q hq x List.mem_cons_self) c
      ·rw [List.mem_singleton] at hq; subst hq; exact c
     have hrb : ∀ z ∈ L', lb x z = false := fun z hz => G.as (by have := hL' z hz; simpa [byd] using this)
     have lL' : L'.length + R'.length = ib' - 1 := by
      have := congrArg List.length hLR'
      simp at this; omega
     have eL' : b.toList.take L'.length = L' := by
      have := congrArg (List.take L'.length) hLR'
      rw [List.take_left, List.take_take, Nat.min_eq_left (by omega)] at this
      exact this
     have eR' : (b.extract L'.length (ib' - 1)).toList = R' := by
      rw [show ib' - 1 = L'.length + (ib' - 1 - L'.length) by omega, ext_to]
      have := congrArg (List.drop L'.length) hLR'
      rw [List.drop_left, List.drop_take] at this
      exact this
     have m4 : Mh lb a.toList b.toList (out.push y ++ (b.extract L'.length (ib' - 1)).reverse).toList.reverse (a.toList.take ia2) (b.toList.take L'.length) := by
      rw [Array.toList_append, List.reverse_append, Array.toList_reverse, List.reverse_reverse, eR', eL']
      rw [hLR'] at m3
      exact m3.mvB hla
     dsimp -zeta -zetaHave only
     extract_lets -underBinder +onlyGivenNames y2 y2b
     dsimp -zeta -zetaHave only [y2, y2b]
     extract_lets -underBinder +onlyGivenNames jp3
     refine wpS_jp2 jp3 (fun ib2 out => Mh lb a.toList b.toList (Array.toList out).reverse (a.toList.take ia2) (b.toList.take ib2) /\ b.toList.take ib2 = L' /\ 2 <= ib2 /\ ib2 + 1 <= ib') (fun ib2 out ⟨m5, e5, l5, le5⟩ => ?hv3) fun hjp => ?hb3
     case hb3 =>
      clear_value jp3
      dsimp only
      refine wpS_ite (fun hk1 => wpS_ite (fun he => ?_) fun he => wpS_ite (fun hf => ?_) fun hf => ?_) fun hk1 => ?_
      ·exact wpS_pure ⟨g1', .inl ⟨_, rfl, ffirst m4 (by simpa using he)⟩⟩
      ·exact wpS_pure ⟨g1', .inl ⟨_, rfl, fdone m4 (.inr (by simpa using hf))⟩⟩
      ·have he : L'.length ≠ 1 := by simpa using he
       have hf : L'.length ≠ 0 := by simpa using hf
       exact hjp _ _ ⟨m4, eL', by omega, by omega⟩
      ·have h0 : L'.length = ib' - 1 := by omega
       exact hjp _ _ ⟨m3, by rw [<- h0]; exact eL', by omega, by omega⟩
     ·dsimp only [jp3]
      refine wpS_bind (wpS_el ex ?_)
      have m6 : Mh lb a.toList b.toList (out.push x).toList.reverse (a.toList.take (ia2 - 1)) (b.toList.take ib2) := by
       rw [Array.toList_push, List.reverse_append]
       rw [tx] at m5
       refine m5.mvA fun p hp q hq => ?_
       rw [List.mem_singleton] at hq; subst hq
       rw [e5] at hp
       exact hrb p hp
      refine wpS_ite (fun hz => wpS_pure ⟨g1', .inl ⟨_, rfl, fdone m6 (.inl (by simpa using hz))⟩⟩) fun hz => ?_
      have hz : ia2 - 1 ≠ 0 := by simpa using hz
      exact wpS_ite (fun _ => wpS_pure ⟨g1', .inr ⟨rfl, ⟨m6, by dsimp only; omega, by dsimp only; omega, l5, by dsimp only; omega⟩, by dsimp only; omega⟩⟩)
       fun _ => wpS_pure ⟨g1', rfl, ⟨m6, by dsimp only; omega, by dsimp only; omega, l5, by dsimp only; omega⟩, by dsimp only; omega⟩
end
end TS
namespace TS
open PySem PyProof.Rows
theorem put_list (o : Nat) : ∀ (l : List Keyed) (k : Nat) (arr : Array Keyed), o + k + l.length <= arr.size ->
  ((l.zipIdx k).foldl (fun a x => a.setIfInBounds (o + x.2) x.1) arr).toList = arr.toList.take (o + k) ++ l ++ arr.toList.drop (o + k + l.length)
 | [], k, arr, h => by simp
 | p :: l, k, arr, h => by
  simp only [List.length_cons] at h
  rw [List.zipIdx_cons, List.foldl_cons, put_list o l (k + 1) _ (by rw [Array.size_setIfInBounds]; omega)]
  rw [Array.toList_setIfInBounds]
  have hl : o + k < arr.toList.length := by rw [Array.length_toList]; omega
  have e1 : (arr.toList.set (o + k) p).take (o + (k + 1)) = arr.toList.take (o + k) ++ [p] := by
   rw [show o + (k + 1) = o + k + 1 by omega, List.take_add_one, List.take_set_of_le (Nat.le_refl _)]
   simp only [Array.length_toList] at hl
   simp [hl]
  have e2 : (arr.toList.set (o + k) p).drop (o + (k + 1) + l.length) = arr.toList.drop (o + k + (l.length + 1)) := by
   rw [List.drop_set_of_lt (by omega)]
   congr 1; omega
  rw [e1, e2, List.length_cons]
  simp
section
variable {prog : Program} {w : World} {A : Around} {E : Value -> Shared -> Prop} {s : Shared} {κ : SortKind} {D : Keyed -> Prop} {lb : Keyed -> Keyed -> Bool}
theorem wpS_set {σ : Type} {M : Model} {st st' : σ} {Q : PUnit -> σ -> Prop} (h : Q ⟨⟩ st') : wpS M A E s (set st' : StateT σ Sem PUnit) Q st := by
 unfold wpS; rw [StateT.run_set]; exact wpAny_pure ⟨rfl, h⟩
theorem wpS_mergeAt (G : Asks prog w A E s κ D lb) {i : Nat} {st : SortSt} {Q : Bool -> SortSt -> Prop} {P X Y S : List Keyed} {pa pb : Nat} (hX : X ≠ []) (hY : Y ≠ [])
  (e1 : (pendingOf st)[i]? = some (P.length, X.length, pa)) (e2 : (pendingOf st)[i + 1]? = some (P.length + X.length, Y.length, pb)) (ha : (arrOf st).toList = P ++ (X ++ (Y ++ S)))
  (hD : ∀ x ∈ (arrOf st).toList, D x) (hk : kindOf st = κ) (hf : failedOf st = none) (uX : Up lb X) (uY : Up lb Y)
  (h : ∀ M arr' g, M.Perm (X ++ Y) -> Up lb M -> Array.toList arr' = P ++ (M ++ S) ->
   Q true (SortSt.mk' (kindOf st) arr' (((pendingOf st).setIfInBounds i (P.length, X.length + Y.length, pa)).eraseIdxIfInBounds (i + 1)) g (failedOf st))) :
  wpS (model prog w) A E s (mergeAt' i) Q st := by
 obtain ⟨y0, Y', rfl⟩ : ∃ y Y', Y = y :: Y' := by cases Y with | nil => exact absurd rfl hY | cons y Y' => exact ⟨y, Y', rfl⟩
 have hsz : (arrOf st).size = P.length + X.length + (y0 :: Y').length + S.length := by
  rw [<- Array.length_toList, ha]; simp; omega
 have inX : ∀ x ∈ X, D x := fun x hx => hD x (by rw [ha]; simp [hx])
 have inY : ∀ x ∈ y0 :: Y', D x := fun x hx => hD x (by rw [ha]; exact List.mem_append_right _ (List.mem_append_right _ (List.mem_append_left _ hx)))
 have eX : ((arrOf st).toList.drop P.length).take X.length = X := by rw [ha, List.drop_left, List.take_left]
 have eY : ((arrOf st).toList.drop (P.length + X.length)).take (y0 :: Y').length = y0 :: Y' := by
  rw [ha, <- List.drop_drop, List.drop_left, List.drop_left, List.take_left]
 have ey : (arrOf st)[P.length + X.length]? = some y0 := by
  rw [<- Array.getElem?_toList, ha, List.getElem?_append_right (by omega), List.getElem?_append_right (by omega)]
  simp
 have key : ∀ {g : Nat}, Up lb (X ++ y0 :: Y') -> Q true (SortSt.mk' (kindOf st) (arrOf st) (((pendingOf st).setIfInBounds i (P.length, X.length + (y0 :: Y').length, pa)).eraseIdxIfInBounds (i + 1)) g (failedOf st)) :=
  fun u => h _ _ _ (List.Perm.refl _) u (by rw [ha]; simp)
 unfold mergeAt'
 refine wpS_bind (wpS_get ?_)
 rw [e1, e2]
 dsimp only
 refine wpS_bind (wpS_set (wpS_bind (wpS_el ey ?_)))
 have lX : 0 < X.length := List.length_pos_iff.mpr hX
 refine wpS_bind (wpS_gal G X (by show P.length + X.length <= (arrOf st).size; omega) eX inX (inY y0 List.mem_cons_self) hk lX uX fun L R hLR hL hR => ?_)
 dsimp only
 have hL' : ∀ x ∈ L, ∀ y ∈ y0 :: Y', lb y x = false := fun x hx y hy => by
  have q : lb y0 x = false := by have := hL x hx; simpa [byd] using this
  rcases List.mem_cons.mp hy with rfl | hy
  ·exact q
  ·exact G.tr q ((List.pairwise_cons.mp uY).1 y hy)
 have hR' : ∀ x ∈ R, lb x y0 = false := fun x hx => G.as (by have := hR x hx; simpa [byd] using this)
 have lLR : L.length + R.length = X.length := by rw [hLR]; simp
 refine wpS_ite (fun hz => ?_) fun hz => ?_
 ·have hz : X.length - L.length = 0 := by simpa using hz
  have : R = [] := List.length_eq_zero_iff.mp (by omega)
  subst this
  rw [List.append_nil] at hLR
  refine wpS_pure (key (Up.app.mpr ⟨uX, uY, ?_⟩))
  rw [hLR]; exact hL'
 have hz : X.length - L.length ≠ 0 := by simpa using hz
 obtain ⟨R0, x1, rfl⟩ : ∃ R0 x1, R = R0 ++ [x1] := ⟨R.dropLast, R.getLast (fun e => by subst e; simp at lLR; omega), (List.dropLast_concat_getLast _).symm⟩
 have ex : (arrOf st)[P.length + L.length + (X.length - L.length) - 1]? = some x1 := by
  rw [<- Array.getElem?_toList, ha, hLR]
  have e : P.length + L.length + ((L ++ (R0 ++ [x1])).length - L.length) - 1 = P.length + (L.length + R0.length) := by simp; omega
  rw [e, List.getElem?_append_right (by omega), Nat.add_sub_cancel_left, List.append_assoc, List.getElem?_append_right (by omega), Nat.add_sub_cancel_left, List.append_assoc, List.getElem?_append_right (by omega)]
  simp
 have mx1 : x1 ∈ X := by rw [hLR]; simp
 refine wpS_bind (wpS_el ex ?_)
 refine wpS_bind (wpS_gal G (y0 :: Y') (by show P.length + X.length + (y0 :: Y').length <= (arrOf st).size; omega) eY inY (inX x1 mx1) hk (by simp) uY fun L2 R2 hLR2 hL2 hR2 => ?_)
 dsimp only
 have leX : ∀ x ∈ X, lb x1 x = false := fun x hx => by
  rw [hLR] at hx uX
  rw [<- List.append_assoc] at hx uX
  rcases List.mem_append.mp hx with hx | hx
  ·exact (Up.app.mp uX).2.2 x hx x1 List.mem_cons_self
  ·rw [List.mem_singleton] at hx; subst hx; exact G.refl _
 have hR2' : ∀ x ∈ X, ∀ y ∈ R2, lb y x = false := fun x hx y hy => by
  have q : lb y x1 = false := by have := hR2 y hy; simpa [byd] using this
  exact G.tr (leX x hx) q
 refine wpS_ite (fun hw => ?_) fun hw => ?_
 ·have hw : L2.length = 0 := by simpa using hw
  have : L2 = [] := List.length_eq_zero_iff.mp hw
  subst this
  rw [List.nil_append] at hLR2
  refine wpS_pure (key (Up.app.mpr ⟨uX, uY, ?_⟩))
  rw [hLR2]; exact hR2'
 have hw : L2.length ≠ 0 := by simpa using hw
 have lLR2 : L2.length + R2.length = (y0 :: Y').length := by rw [hLR2]; simp
 have ax : ((arrOf st).extract (P.length + L.length) (P.length + X.length)).toList = R0 ++ [x1] := by
  rw [show P.length + X.length = P.length + L.length + (X.length - L.length) by omega, ext_to, <- List.drop_drop, ha, List.drop_left]
  rw [hLR, List.append_assoc, List.drop_left]
  have e : (L ++ (R0 ++ [x1])).length - L.length = (R0 ++ [x1]).length := by simp
  rw [e, List.take_left]
 have ay : ((arrOf st).extract (P.length + X.length) (P.length + X.length + L2.length)).toList = L2 := by
  rw [ext_to, <- List.drop_drop, ha, List.drop_left, List.drop_left, hLR2, List.append_assoc, List.take_left]
 obtain ⟨L2', rfl⟩ : ∃ L2', L2 = y0 :: L2' := by
  cases L2 with
  | nil => exact absurd rfl hw
  | cons q L2' => injection hLR2 with h1 h2; subst h1; exact ⟨_, rfl⟩
 have uR : Up lb (R0 ++ [x1]) := by rw [hLR] at uX; exact (Up.app.mp uX).2.1
 have uL2 : Up lb (y0 :: L2') := by rw [hLR2] at uY; exact (Up.app.mp uY).1
 have hyx : ∀ y ∈ y0 :: L2', lb x1 y = false := fun y hy => G.as (by have := hL2 y hy; simpa [byd] using this)
 have ends : ∀ (out : Array Keyed) (g : Nat), Res lb (R0 ++ [x1]) (y0 :: L2') out.toList ->
   Q true (SortSt.mk' (kindOf st) (List.foldl (fun a x => a.setIfInBounds (P.length + L.length + x.snd) x.fst) (arrOf st) out.toList.zipIdx) (((pendingOf st).setIfInBounds i (P.length, X.length + (y0 :: Y').length, pa)).eraseIdxIfInBounds (i + 1)) g (failedOf st)) := fun out g hr => by
  have lo : out.toList.length = R0.length + 1 + (L2'.length + 1) := by rw [hr.1.length_eq]; simp; omega
  have memo : ∀ z ∈ out.toList, z ∈ R0 ++ [x1] \/ z ∈ y0 :: L2' := fun z hz => List.mem_append.mp (hr.1.mem_iff.mp hz)
  refine h (L ++ (out.toList ++ R2)) _ _ ?_ ?_ ?_
  ·rw [hLR2]
   conv => rhs; rw [hLR]
   rw [List.append_assoc]
   refine List.Perm.append_left _ ?_
   rw [<- List.append_assoc]
   exact List.Perm.append_right _ hr.1
  ·refine Up.app.mpr ⟨by rw [hLR] at uX; exact (Up.app.mp uX).1, Up.app.mpr ⟨hr.2, by rw [hLR2] at uY; exact (Up.app.mp uY).2.1, fun x hx y hy => ?_⟩, fun x hx y hy => ?_⟩
   ·rcases memo x hx with hx | hx
    ·exact hR2' x (by rw [hLR]; exact List.mem_append_right _ hx) y hy
    ·rw [hLR2] at uY; exact (Up.app.mp uY).2.2 x hx y hy
   ·rcases List.mem_append.mp hy with hy | hy
    ·rcases memo y hy with hy | hy
     ·rw [hLR] at uX; exact (Up.app.mp uX).2.2 x hx y hy
     ·exact hL' x hx y (by rw [hLR2]; exact List.mem_append_left _ hy)
    ·exact hL' x hx y (by rw [hLR2]; exact List.mem_append_right _ hy)
  ·simp only [List.length_append, List.length_cons, List.length_nil] at lLR lLR2
   have e := put_list (P.length + L.length) out.toList 0 (arrOf st) (by rw [hsz]; simp only [List.length_cons]; omega)
   rw [Nat.add_zero] at e
   rw [e]
   have e3 : (arrOf st).toList = P ++ L ++ (R0 ++ [x1]) ++ (y0 :: L2') ++ R2 ++ S := by rw [ha, hLR2, hLR]; simp
   have e4 : (arrOf st).toList.take (P.length + L.length) = P ++ L := by
    rw [e3]; simp only [List.append_assoc]
    rw [<- List.append_assoc P L, show P.length + L.length = (P ++ L).length by simp, List.take_left]
   have e5 : (arrOf st).toList.drop (P.length + L.length + out.toList.length) = R2 ++ S := by
    rw [e3, List.append_assoc (P ++ L ++ (R0 ++ [x1]) ++ (y0 :: L2'))]
    rw [show P.length + L.length + out.toList.length = (P ++ L ++ (R0 ++ [x1]) ++ (y0 :: L2')).length by simp [lo]; omega, List.drop_left]
   rw [e4, e5]
   simp
 have n1 : 0 < ((arrOf st).extract (P.length + L.length) (P.length + X.length)).size := by rw [<- Array.length_toList, ax]; simp
 have n2 : 0 < ((arrOf st).extract (P.length + X.length) (P.length + X.length + (y0 :: L2').length)).size := by rw [<- Array.length_toList, ay]; simp
 have lx1 : (R0 ++ [x1]).drop (((arrOf st).extract (P.length + L.length) (P.length + X.length)).size - 1) = [x1] := by
  rw [<- Array.length_toList, ax]; simp
 refine wpS_ite (fun hb => ?_) fun hb => ?_
 ·refine wpS_bind (wpS_lo G (by rw [ax]; exact fun x hx => inX x (by rw [hLR]; exact List.mem_append_right _ hx)) (by rw [ay]; exact fun x hx => inY x (by rw [hLR2]; exact List.mem_append_left _ hx)) (by rw [ax]; exact uR) (by rw [ay]; exact uL2) n1 n2
   (fun y hy x hx => ?_) (fun x hx y hy => ?_) hk fun out g hr => ?_)
  ·rw [ax] at hx
   rw [<- Array.getElem?_toList, ay] at hy
   have : y0 = y := by simpa using hy
   subst this
   exact hR' x hx
  ·rw [ax, lx1, List.mem_singleton] at hx; subst hx
   rw [ay] at hy
   exact hyx y hy
  ·rw [ax, ay] at hr
   refine wpS_bind (wpS_modify (wpS_bind (wpS_get (wpS_pure ?_))))
   show Q (Option.isNone (failedOf st)) _
   have e : Option.isNone (failedOf st) = true := by rw [hf]; rfl
   rw [e]
   exact ends out g hr
 ·refine wpS_bind (wpS_hi G (by rw [ax]; exact fun x hx => inX x (by rw [hLR]; exact List.mem_append_right _ hx)) (by rw [ay]; exact fun x hx => inY x (by rw [hLR2]; exact List.mem_append_left _ hx)) (by rw [ax]; exact uR) (by rw [ay]; exact uL2) n1 n2
   (fun y hy x hx => ?_) (fun x hx y hy => ?_) hk fun out g hr => ?_)
  ·rw [ax] at hx
   rw [ay] at hy
   have : y = y0 := by simpa using hy
   subst this
   exact hR' x hx
  ·have e : x1 = x := by
    rw [<- Array.getElem?_toList, <- Array.length_toList, ax] at hx
    simpa using hx
   subst e
   rw [ay] at hy
   exact hyx y hy
  ·rw [ax, ay] at hr
   refine wpS_bind (wpS_modify (wpS_bind (wpS_get (wpS_pure ?_))))
   show Q (Option.isNone (failedOf st)) _
   have e : Option.isNone (failedOf st) = true := by rw [hf]; rfl
   rw [e]
   exact ends out g hr
end
end TS
namespace TS
open PySem PyProof.Rows
abbrev lxP : Nat -> Nat -> StateT SortSt Sem (Option Bool) := sortPriv% PySem.Builtin.ltAt
abbrev rvP : Nat -> Nat -> StateT SortSt Sem Unit := sortPriv% PySem.Builtin.reverseSlice
abbrev mvP : Nat -> Nat -> StateT SortSt Sem Unit := sortPriv% PySem.Builtin.moveDown
noncomputable def el (arr : Array Keyed) (i : Nat) : Keyed := (arr[i]?).getD (Value.none, Value.none)
theorem el_of {p q : Array Keyed} {i j : Nat} (h : p[i]? = q[j]?) : el p i = el q j := by unfold el; rw [h]
theorem el_some {arr : Array Keyed} {i : Nat} (h : i < arr.size) : arr[i]? = some (el arr i) := by unfold el; simp [h]
theorem el_mem {arr : Array Keyed} {i : Nat} (h : i < arr.size) : el arr i ∈ arr.toList := by unfold el; simp [h]
structure Bs (lo : Nat) (st₀ st : SortSt) : Prop where
 kind : kindOf st = kindOf st₀
 pend : pendingOf st = pendingOf st₀
 fail : failedOf st = failedOf st₀
 perm : (arrOf st).Perm (arrOf st₀)
 pre : ∀ i, i < lo -> (arrOf st)[i]? = (arrOf st₀)[i]?
section
variable {lo : Nat} {st₀ st : SortSt} {lb : Keyed -> Keyed -> Bool}
theorem Bs.refl (lo : Nat) (st : SortSt) : Bs lo st st := ⟨rfl, rfl, rfl, Array.Perm.refl _, fun _ _ => rfl⟩
theorem Bs.size (B : Bs lo st₀ st) : (arrOf st).size = (arrOf st₀).size := B.perm.size_eq
theorem Bs.rev (B : Bs lo st₀ st) {i j : Nat} (hi : lo <= i) (hj : j <= (arrOf st₀).size) : Bs lo st₀ (setArr st (mirror (arrOf st) i j ((j - i) / 2))) :=
 ⟨B.kind, B.pend, B.fail, (mirror_perm _ _ _ _).trans B.perm, fun k hk => by
  show (mirror (arrOf st) i j ((j - i) / 2))[k]? = _
  rw [getElem?_mirror_all (by rw [B.size]; exact hj), if_neg (by omega)]
  exact B.pre k hk⟩
theorem rev_el {arr : Array Keyed} {i j : Nat} (hj : j <= arr.size) (k : Nat) : el (mirror arr i j ((j - i) / 2)) k = if i <= k /\ k < j then el arr (i + j - 1 - k) else el arr k := by
 have e := getElem?_mirror_all (xs := arr) (i := i) (j := j) hj k
 split
 ·rename_i h; rw [if_pos h] at e; exact el_of e
 ·rename_i h; rw [if_neg h] at e; exact el_of e
def SrtL (lb : Keyed -> Keyed -> Bool) (arr : Array Keyed) (lo k : Nat) : Prop := ∀ i j, i <= j -> j < k -> lb (el arr (lo + j)) (el arr (lo + i)) = false
def DscL (lb : Keyed -> Keyed -> Bool) (arr : Array Keyed) (lo k : Nat) : Prop := ∀ i j, i <= j -> j < k -> lb (el arr (lo + i)) (el arr (lo + j)) = false
end
section
variable {prog : Program} {w : World} {A : Around} {E : Value -> Shared -> Prop} {s : Shared} {κ : SortKind} {D : Keyed -> Prop} {lb : Keyed -> Keyed -> Bool} {lo : Nat} {st₀ st : SortSt}
theorem SrtL.next (G : Asks prog w A E s κ D lb) {p : Array Keyed} {k : Nat} (h : SrtL lb p lo k) (hk : 1 <= k) (hl : lb (el p (lo + k)) (el p (lo + k - 1)) = false) : SrtL lb p lo (k + 1) := fun i j hij hj => by
 by_cases hjk : j < k
 ·exact h i j hij hjk
 ·have e : j = k := by omega
  subst e
  by_cases hi : i = j
  ·subst hi; exact G.refl _
  ·have := h i (j - 1) (by omega) (by omega)
   rw [show lo + (j - 1) = lo + j - 1 by omega] at this
   exact G.tr this hl
theorem DscL.next (G : Asks prog w A E s κ D lb) {p : Array Keyed} {k : Nat} (h : DscL lb p lo k) (hk : 1 <= k) (hl : lb (el p (lo + k - 1)) (el p (lo + k)) = false) : DscL lb p lo (k + 1) := fun i j hij hj => by
 by_cases hjk : j < k
 ·exact h i j hij hjk
 ·have e : j = k := by omega
  subst e
  by_cases hi : i = j
  ·subst hi; exact G.refl _
  ·have := h i (j - 1) (by omega) (by omega)
   rw [show lo + (j - 1) = lo + j - 1 by omega] at this
   exact G.tr hl this
def BlkL (lb : Keyed -> Keyed -> Bool) (p : Array Keyed) (lo m q : Nat) : Prop := ∀ a b, m - (q + 1) <= a -> a < m -> m - (q + 1) <= b -> b < m -> lb (el p (lo + b)) (el p (lo + a)) = false
theorem rev_eqL (G : Asks prog w A E s κ D lb) {p : Array Keyed} {i j : Nat} (hj : lo + j <= p.size) (hij : i <= j) (he : ∀ a b, i <= a -> a < j -> i <= b -> b < j -> lb (el p (lo + b)) (el p (lo + a)) = false) (k : Nat) :
  lb (el p k) (el (mirror p (lo + i) (lo + j) ((lo + j - (lo + i)) / 2)) k) = false /\ lb (el (mirror p (lo + i) (lo + j) ((lo + j - (lo + i)) / 2)) k) (el p k) = false := by
 rw [rev_el hj]
 split
 ·rename_i h
  have e1 : k = lo + (k - lo) := by omega
  have e2 : lo + i + (lo + j) - 1 - k = lo + (i + j - 1 - (k - lo)) := by omega
  rw [e2]
  constructor
  ·have := he (i + j - 1 - (k - lo)) (k - lo) (by omega) (by omega) (by omega) (by omega)
   rwa [<- e1] at this
  ·have := he (k - lo) (i + j - 1 - (k - lo)) (by omega) (by omega) (by omega) (by omega)
   rwa [<- e1] at this
 ·exact ⟨G.refl _, G.refl _⟩
theorem DscL.of_eq (G : Asks prog w A E s κ D lb) {p q : Array Keyed} {k : Nat} (h : DscL lb p lo k) (e : ∀ k, lb (el p k) (el q k) = false /\ lb (el q k) (el p k) = false) : DscL lb q lo k := fun i j hij hj =>
 G.tr (e _).1 (G.tr (h i j hij hj) (e _).2)
theorem wpS_ltL (G : Asks prog w A E s κ D lb) {i j : Nat} {Q : Option Bool -> SortSt -> Prop} (B : Bs lo st₀ st) (hk : kindOf st₀ = κ) (hD : ∀ x ∈ (arrOf st₀).toList, D x) (hi : i < (arrOf st₀).size) (hj : j < (arrOf st₀).size)
  (h : Q (some (lb (el (arrOf st) i) (el (arrOf st) j))) st) : wpS (model prog w) A E s (lxP i j) Q st := by
 show wpS (model prog w) A E s (ltAt' i j) Q st
 rw [ltAt'_eq]
 refine wpS_bind (wpS_get ?_)
 have mem : ∀ {i}, i < (arrOf st₀).size -> D (el (arrOf st) i) := fun q => hD _ ((Array.perm_iff_toList_perm.mp B.perm).mem_iff.mp (el_mem (by rw [B.size]; exact q)))
 show wpS _ _ _ _ (do let x <- elem' (arrOf st) i; let y <- elem' (arrOf st) j; lt' x y) Q st
 rw [elem'_eq, elem'_eq, el_some (show i < (arrOf st).size by rw [B.size]; exact hi), el_some (show j < (arrOf st).size by rw [B.size]; exact hj)]
 exact wpS_bind (wpS_pure (wpS_bind (wpS_pure (G.ask (mem hi) (mem hj) (B.kind.trans hk) h))))
theorem wpS_rv {i j : Nat} {Q : Unit -> SortSt -> Prop} (h : Q () (setArr st (mirror (arrOf st) i j ((j - i) / 2)))) : wpS (model prog w) A E s (rvP i j) Q st := by
 show wpS (model prog w) A E s (reverseSlice' i j) Q st
 rw [reverseSlice'_eq]; exact wpS_modify h
theorem wpS_countL (G : Asks prog w A E s κ D lb) {nrem : Nat} {Q : Option Nat -> SortSt -> Prop} (hk : kindOf st₀ = κ) (hD : ∀ x ∈ (arrOf st₀).toList, D x) (h1 : 1 <= nrem) (hn : lo + nrem <= (arrOf st₀).size)
  (h : ∀ n st, 1 <= n -> n <= nrem -> Bs lo st₀ st -> SrtL lb (arrOf st) lo n -> Q (some n) st) : wpS (model prog w) A E s (countRun' lo nrem) Q st₀ := by
 have one : ∀ p : Array Keyed, SrtL lb p lo 1 /\ DscL lb p lo 1 := fun p => ⟨fun i j hij hj => by
   have : i = j := by omega
   subst this; exact G.refl _, fun i j hij hj => by
   have : i = j := by omega
   subst this; exact G.refl _⟩
 unfold countRun'
 refine wpS_bind (wpS_mono (wpS_forRange (I := fun k c st => st = st₀ /\ c.1 = none /\ c.2 = k /\ SrtL lb (arrOf st₀) lo k)
  (Q := fun c st => st = st₀ /\ c.1 = none /\ 1 <= c.2 /\ c.2 <= nrem /\ SrtL lb (arrOf st₀) lo c.2 /\ (c.2 = nrem \/ lb (el (arrOf st₀) (lo + c.2)) (el (arrOf st₀) (lo + c.2 - 1)) = true)) ?step ?fin ⟨rfl, rfl, rfl, (one _).1⟩) ?post)
 case step =>
  rintro k ⟨r, n⟩ st ha hb ⟨q1, q2, q3, hs⟩
  dsimp only at q2 q3
  subst q1 q2 q3
  try dsimp only
  refine wpS_bind (wpS_ltL G (Bs.refl lo _) hk hD (by omega) (by omega) ?_)
  cases c : lb (el (arrOf st) (lo + n)) (el (arrOf st) (lo + n - 1)) with
  | true => exact wpS_pure ⟨rfl, rfl, ha, by dsimp only; omega, hs, .inr c⟩
  | false => exact wpS_pure ⟨rfl, rfl, rfl, hs.next G ha c⟩
 case fin =>
  rintro ⟨r, n⟩ st ⟨rfl, hr, hn', hs⟩
  dsimp only at hr hn' hs
  subst hn'
  exact ⟨rfl, hr, by dsimp only; omega, by dsimp only; omega, hs, .inl (by dsimp only; omega)⟩
 case post =>
 rintro ⟨r, n⟩ st ⟨q1, hr, g1, g2, g3, g4⟩
 dsimp only at hr g1 g2 g3 g4
 subst q1 hr
 extract_lets -underBinder +onlyGivenNames w1 w2
 dsimp -zeta -zetaHave +zetaDelta only
 refine wpS_ite (fun hz => wpS_pure (h n st g1 g2 (Bs.refl _ _) g3)) fun hz => ?_
 have hz : n ≠ nrem := by simpa using hz
 have g4 := g4.resolve_left hz
 extract_lets -underBinder +onlyGivenNames jp1
 refine wpS_jp0 jp1 (fun st' => Bs lo st st' /\ DscL lb (arrOf st') lo n /\ lb (el (arrOf st') (lo + n)) (el (arrOf st') (lo + n - 1)) = true) (fun st' hs => ?hv1) fun hjp => ?hb1
 case hb1 =>
  clear_value jp1
  refine wpS_ite (fun hn1 => ?_) fun hn1 => ?_
  ·refine wpS_bind (wpS_ltL G (Bs.refl lo _) hk hD (by omega) (by omega) ?_)
   cases c : lb (el (arrOf st) lo) (el (arrOf st) (lo + n - 1)) with
   | true => exact wpS_pure (h n st g1 g2 (Bs.refl _ _) g3)
   | false =>
    refine wpS_bind (wpS_rv (hjp _ ⟨(Bs.refl lo st).rev (Nat.le_refl _) (by omega), ?_, ?_⟩))
    ·have all : ∀ a b, 0 <= a -> a < n -> 0 <= b -> b < n -> lb (el (arrOf st) (lo + b)) (el (arrOf st) (lo + a)) = false := fun a b _ ha _ hb => by
      have c1 := g3 a (n - 1) (by omega) (by omega)
      have c2 := g3 0 b (by omega) hb
      rw [show lo + (n - 1) = lo + n - 1 by omega] at c1
      exact G.tr c1 (G.tr c c2)
     have e := rev_eqL G (lo := lo) (p := arrOf st) (i := 0) (j := n) (by omega) (by omega) all
     exact DscL.of_eq G (fun i j hij hj => all _ _ (Nat.zero_le _) hj (Nat.zero_le _) (by omega)) e
    ·show lb (el (mirror (arrOf st) lo (lo + n) ((lo + n - lo) / 2)) (lo + n)) (el (mirror (arrOf st) lo (lo + n) ((lo + n - lo) / 2)) (lo + n - 1)) = true
     rw [rev_el (by omega), rev_el (by omega), if_neg (by omega), if_pos (by omega)]
     rw [show lo + (lo + n) - 1 - (lo + n - 1) = lo by omega]
     cases q : lb (el (arrOf st) (lo + n)) (el (arrOf st) lo) with
     | true => rfl
     | false =>
      have c2 := g3 0 (n - 1) (by omega) (by omega)
      rw [show lo + (n - 1) = lo + n - 1 by omega] at c2
      rw [G.tr c q] at g4
      cases g4
  ·have e : n = 1 := by omega
   subst e
   exact hjp _ ⟨Bs.refl _ _, (one _).2, g4⟩
 case hv1 =>
 obtain ⟨b1, b2, b3⟩ := hs
 dsimp -zeta -zetaHave only [jp1]
 refine wpS_bind (wpS_rule ?_)
 refine wpS_bind (wpS_mono (wpS_forRange (I := fun k c st'' => c.1 = none /\ c.2.1 = k /\ Bs lo st st'' /\ DscL lb (arrOf st'') lo k /\ c.2.2 + 1 <= k /\ BlkL lb (arrOf st'') lo k c.2.2)
  (Q := fun c st'' => c.1 = none /\ n + 1 <= c.2.1 /\ c.2.1 <= nrem /\ Bs lo st st'' /\ DscL lb (arrOf st'') lo c.2.1 /\ c.2.2 + 1 <= c.2.1 /\ BlkL lb (arrOf st'') lo c.2.1 c.2.2) ?step ?fin
  ⟨rfl, rfl, b1, b2.next G g1 (G.as b3), by dsimp only; omega, fun a b a1 a2 b1 b2 => ?one⟩) ?post)
 case one =>
  have : a = b := by dsimp only at a1 b1; omega
  subst this; exact G.refl _
 case fin =>
  rintro ⟨r, m, q⟩ st'' ⟨p1, p2, p3, p4, p5, p6⟩
  dsimp only at p1 p2 p3 p4 p5 p6
  subst p2
  exact ⟨p1, by dsimp only; omega, by dsimp only; omega, p3, p4, p5, p6⟩
 case step =>
  rintro k ⟨r, m, q⟩ st'' ha hb ⟨p1, p2, p3, p4, p5, p6⟩
  dsimp only at p1 p2 p3 p4 p5 p6
  subst p1 p2
  dsimp only
  have szz := p3.size
  have blk1 : ∀ p : Array Keyed, BlkL lb p lo (m + 1) 0 := fun p a b a1 a2 b1 b2 => by
   have : a = b := by omega
   subst this; exact G.refl _
  refine wpS_bind (wpS_ltL G p3 hk hD (by omega) (by omega) ?_)
  cases c : lb (el (arrOf st'') (lo + m)) (el (arrOf st'') (lo + m - 1)) with
  | true =>
   dsimp only
   simp only [if_true]
   refine wpS_ite (fun h0 => ?_) fun h0 => ?_
   ·refine wpS_bind (wpS_rv (wpS_pure ⟨rfl, rfl, p3.rev (by omega) (by omega), ?_, by dsimp only; omega, blk1 _⟩))
    have e := rev_eqL G (lo := lo) (p := arrOf st'') (i := m - (q + 1)) (j := m) (by omega) (by omega) p6
    rw [show lo + (m - (q + 1)) = lo + m - (q + 1) by omega] at e
    exact (p4.of_eq G e).next G (by omega) (G.tr (e _).1 (G.tr (G.as c) (e _).2))
   ·exact wpS_pure ⟨rfl, rfl, p3, p4.next G (by omega) (G.as c), by dsimp only; omega, blk1 _⟩
  | false =>
   dsimp only
   simp only [Bool.false_eq_true, if_false]
   refine wpS_bind (wpS_ltL G p3 hk hD (by omega) (by omega) ?_)
   cases d : lb (el (arrOf st'') (lo + m - 1)) (el (arrOf st'') (lo + m)) with
   | true => exact wpS_pure ⟨rfl, by dsimp only; omega, by dsimp only; omega, p3, p4, p5, p6⟩
   | false =>
    refine wpS_pure ⟨rfl, rfl, p3, p4.next G (by omega) d, by dsimp only; omega, fun a b a1 a2 b1 b2 => ?_⟩
    dsimp only at a1 b1
    have ex : ∀ x, x < m -> m - (q + 1) <= x -> lb (el (arrOf st'') (lo + m)) (el (arrOf st'') (lo + x)) = false /\ lb (el (arrOf st'') (lo + x)) (el (arrOf st'') (lo + m)) = false := fun x hx hx' => by
     have y1 := p6 x (m - 1) hx' hx (by omega) (by omega)
     have y2 := p6 (m - 1) x (by omega) (by omega) hx' hx
     rw [show lo + (m - 1) = lo + m - 1 by omega] at y1 y2
     exact ⟨G.tr y1 c, G.tr d y2⟩
    by_cases ha : a = m
    ·by_cases hb' : b = m
     ·subst ha; subst hb'; exact G.refl _
     ·subst ha; exact (ex b (by omega) (by omega)).2
    ·by_cases hb' : b = m
     ·subst hb'; exact (ex a (by omega) (by omega)).1
     ·exact p6 a b (by omega) (by omega) (by omega) (by omega)
 case post =>
 rintro ⟨r, m, q⟩ st'' ⟨p1, p2, p2', p3, p4, p5, p6⟩
 dsimp only at p1 p2 p2' p3 p4 p5 p6
 subst p1
 extract_lets -underBinder +onlyGivenNames w3 w4 w5 w6
 dsimp -zeta -zetaHave +zetaDelta only
 extract_lets -underBinder +onlyGivenNames jp2
 refine wpS_jp0 jp2 (fun st' => Bs lo st st' /\ DscL lb (arrOf st') lo m) (fun st3 hs => ?hv2) fun hjp => ?hb2
 case hb2 =>
  clear_value jp2
  have szz := p3.size
  refine wpS_ite (fun h0 => ?_) fun h0 => hjp _ ⟨p3, p4⟩
  refine wpS_bind (wpS_rv (hjp _ ⟨p3.rev (by omega) (by omega), ?_⟩))
  have e := rev_eqL G (lo := lo) (p := arrOf st'') (i := m - (q + 1)) (j := m) (by omega) (by omega) p6
  rw [show lo + (m - (q + 1)) = lo + m - (q + 1) by omega] at e
  exact p4.of_eq G e
 case hv2 =>
 obtain ⟨c1, c2⟩ := hs
 have szz := c1.size
 dsimp only [jp2]
 refine wpS_bind (wpS_rv ?_)
 have c3 := c1.rev (i := lo) (j := lo + m) (Nat.le_refl _) (by omega)
 have s3 : SrtL lb (arrOf (setArr st3 (mirror (arrOf st3) lo (lo + m) ((lo + m - lo) / 2)))) lo m := fun i j hij hj => by
  show lb (el (mirror (arrOf st3) lo (lo + m) ((lo + m - lo) / 2)) (lo + j)) (el (mirror (arrOf st3) lo (lo + m) ((lo + m - lo) / 2)) (lo + i)) = false
  rw [rev_el (by omega), rev_el (by omega), if_pos (by omega), if_pos (by omega)]
  have := c2 (m - 1 - j) (m - 1 - i) (by omega) (by omega)
  rwa [show lo + (m - 1 - j) = lo + (lo + m) - 1 - (lo + j) by omega, show lo + (m - 1 - i) = lo + (lo + m) - 1 - (lo + i) by omega] at this
 generalize setArr st3 (mirror (arrOf st3) lo (lo + m) ((lo + m - lo) / 2)) = st4 at c3 s3 ⊢
 refine wpS_bind (wpS_mono (wpS_forRange (I := fun k c st => st = st4 /\ c.1 = none /\ c.2 = k /\ SrtL lb (arrOf st4) lo k)
  (Q := fun c st => st = st4 /\ c.1 = none /\ 1 <= c.2 /\ c.2 <= nrem /\ SrtL lb (arrOf st4) lo c.2) ?step ?fin ⟨rfl, rfl, rfl, s3⟩) ?post)
 case step =>
  rintro k ⟨r, n'⟩ st' ha hb ⟨q1, q2, q3, hs⟩
  dsimp only at q2 q3
  subst q1 q2 q3
  try dsimp only
  refine wpS_bind (wpS_ltL G c3 hk hD (by omega) (by omega) ?_)
  cases c : lb (el (arrOf st') (lo + n')) (el (arrOf st') (lo + n' - 1)) with
  | true => exact wpS_pure ⟨rfl, rfl, by dsimp only; omega, by dsimp only; omega, hs⟩
  | false => exact wpS_pure ⟨rfl, rfl, rfl, hs.next G (by omega) c⟩
 case fin =>
  rintro ⟨r, n'⟩ st' ⟨q1, hr, hn', hs⟩
  dsimp only at hr hn' hs
  subst q1 hn'
  exact ⟨rfl, hr, by dsimp only; omega, by dsimp only; omega, hs⟩
 case post =>
  rintro ⟨r, n'⟩ st' ⟨q1, hr, t1, t2, t3⟩
  dsimp only at hr t1 t2 t3
  subst q1 hr
  exact wpS_pure (h n' _ t1 t2 c3 t3)
end
end TS
namespace TS
open PySem PyProof.Rows
section
variable {prog : Program} {w : World} {A : Around} {E : Value -> Shared -> Prop} {s : Shared} {κ : SortKind} {D : Keyed -> Prop} {lb : Keyed -> Keyed -> Bool} {lo : Nat} {st₀ st : SortSt}
theorem wpS_mv {i j : Nat} {Q : Unit -> SortSt -> Prop} (h : Q () (setArr st (bubble (arrOf st) i (i - j)))) : wpS (model prog w) A E s (mvP i j) Q st := by
 show wpS (model prog w) A E s (moveDown' i j) Q st
 rw [moveDown'_eq]; exact wpS_modify h
theorem Bs.mv (B : Bs lo st₀ st) {i j : Nat} (hi : i < (arrOf st₀).size) (hj : lo <= j) (hij : j <= i) : Bs lo st₀ (setArr st (bubble (arrOf st) i (i - j))) :=
 ⟨B.kind, B.pend, B.fail, (bubble_perm _ _ _).trans B.perm, fun k hk => by
  show (bubble (arrOf st) i (i - j))[k]? = _
  rw [getElem?_bubble (by rw [B.size]; exact hi) _ (by omega), if_neg (by omega), if_neg (by omega)]
  exact B.pre k hk⟩
theorem wpS_binL (G : Asks prog w A E s κ D lb) {n ok : Nat} {Q : Bool -> SortSt -> Prop} (hk : kindOf st₀ = κ) (hD : ∀ x ∈ (arrOf st₀).toList, D x) (hn : lo + n <= (arrOf st₀).size) (h1 : 1 <= ok) (hok : ok <= n) (B : Bs lo st₀ st)
  (hs : SrtL lb (arrOf st) lo ok) (h : ∀ st, Bs lo st₀ st -> SrtL lb (arrOf st) lo n -> Q true st) : wpS (model prog w) A E s (binarySort' lo n ok) Q st := by
 unfold binarySort'
 refine wpS_bind (wpS_mono (wpS_forRange (I := fun k c st => c.1 = none /\ Bs lo st₀ st /\ SrtL lb (arrOf st) lo k) (Q := fun c st => c.1 = none /\ Bs lo st₀ st /\ SrtL lb (arrOf st) lo n) ?step ?fin ⟨rfl, B, by rw [Nat.max_eq_left h1]; exact hs⟩) ?post)
 case post =>
  rintro ⟨r, u⟩ st' ⟨q1, q2, q3⟩
  dsimp only at q1
  subst q1
  exact wpS_pure (h _ q2 q3)
 case fin =>
  rintro ⟨r, u⟩ st' ⟨q1, q2, q3⟩
  rw [show max (max ok 1) n = n by omega] at q3
  exact ⟨q1, q2, q3⟩
 case step =>
  rintro k ⟨r, u⟩ st' ha hb ⟨q1, q2, q3⟩
  dsimp only at q1
  subst q1
  dsimp only
  have szz := q2.size
  refine wpS_bind (wpS_mono (wpS_forRange (I := fun m c st => st = st' /\ c.1 = none /\ c.2.2 - c.2.1 <= k - m /\ c.2.1 <= c.2.2 /\ c.2.2 <= k /\ (∀ i, i < c.2.1 -> lb (el (arrOf st') (lo + k)) (el (arrOf st') (lo + i)) = false) /\ ∀ i, c.2.2 <= i -> i < k -> lb (el (arrOf st') (lo + k)) (el (arrOf st') (lo + i)) = true)
   (Q := fun c st => st = st' /\ c.1 = none /\ c.2.1 <= k /\ (∀ i, i < c.2.1 -> lb (el (arrOf st') (lo + k)) (el (arrOf st') (lo + i)) = false) /\ ∀ i, c.2.1 <= i -> i < k -> lb (el (arrOf st') (lo + k)) (el (arrOf st') (lo + i)) = true) ?step ?fin
   ⟨rfl, rfl, by dsimp only; omega, by dsimp only; omega, by dsimp only; omega, fun i hi => absurd hi (Nat.not_lt_zero _), fun i hi hik => by dsimp only at hi; omega⟩) ?post)
  case fin =>
   rintro ⟨r, l, rr⟩ st3 ⟨p1, p2, p3, p4, p5, p6, p7⟩
   dsimp only at p1 p2 p3 p4 p5 p6 p7
   have : l = rr := by omega
   subst this
   exact ⟨p1, p2, p5, p6, p7⟩
  case step =>
   rintro m ⟨r, l, rr⟩ st3 ha' hb' ⟨p1, p2, p3, p4, p5, p6, p7⟩
   dsimp only at p1 p2 p3 p4 p5 p6 p7
   subst p1 p2
   dsimp only
   refine wpS_ite (fun hlr => ?_) fun hlr => ?_
   ·have : l = rr := by omega
    subst this
    exact wpS_pure ⟨rfl, rfl, p5, p6, p7⟩
   ·refine wpS_bind (wpS_ltL G q2 hk hD (by omega) (by omega) ?_)
    cases c : lb (el (arrOf st3) (lo + k)) (el (arrOf st3) (lo + (l + rr) / 2)) with
    | true =>
     refine wpS_pure ⟨rfl, rfl, by dsimp only; omega, by dsimp only; omega, by dsimp only; omega, p6, fun i hi hik => ?_⟩
     dsimp only at hi
     cases q : lb (el (arrOf st3) (lo + k)) (el (arrOf st3) (lo + i)) with
     | true => rfl
     | false => rw [G.tr (q3 ((l + rr) / 2) i hi hik) q] at c; cases c
    | false =>
     refine wpS_pure ⟨rfl, rfl, by dsimp only; omega, by dsimp only; omega, p5, fun i hi => ?_, p7⟩
     dsimp only at hi
     exact G.tr (q3 i ((l + rr) / 2) (by omega) (by omega)) c
  case post =>
   rintro ⟨r, l, rr⟩ st3 ⟨p1, p2, p3, a2, a3⟩
   dsimp only at p1 p2 p3 a2 a3
   subst p1 p2
   dsimp only
   refine wpS_bind (wpS_mv (wpS_pure ⟨rfl, q2.mv (by omega) (by omega) (by omega), fun i j hij hj => ?_⟩))
   show lb (el (bubble (arrOf st3) (lo + k) (lo + k - (lo + l))) (lo + j)) (el (bubble (arrOf st3) (lo + k) (lo + k - (lo + l))) (lo + i)) = false
   have ev : ∀ x, el (bubble (arrOf st3) (lo + k) (lo + k - (lo + l))) (lo + x) = if x = l then el (arrOf st3) (lo + k) else if l < x /\ x <= k then el (arrOf st3) (lo + (x - 1)) else el (arrOf st3) (lo + x) := fun x => by
    have e := getElem?_bubble (xs := arrOf st3) (src := lo + k) (by omega) (lo + k - (lo + l)) (by omega) (lo + x)
    by_cases h1 : x = l
    ·rw [if_pos (by omega)] at e; rw [if_pos h1]; exact el_of e
    ·rw [if_neg (by omega)] at e; rw [if_neg h1]
     by_cases h2 : l < x /\ x <= k
     ·rw [if_pos (by omega), show lo + x - 1 = lo + (x - 1) by omega] at e; rw [if_pos h2]; exact el_of e
     ·rw [if_neg (by omega)] at e; rw [if_neg h2]; exact el_of e
   rw [ev i, ev j]
   by_cases hi : i = l
   ·rw [if_pos hi]
    by_cases hj' : j = l
    ·rw [if_pos hj']; exact G.refl _
    ·rw [if_neg hj', if_pos ⟨by omega, by omega⟩]
     exact G.as (a3 (j - 1) (by omega) (by omega))
   ·rw [if_neg hi]
    by_cases hj' : j = l
    ·rw [if_pos hj', if_neg (by omega)]
     exact a2 i (by omega)
    ·rw [if_neg hj']
     by_cases hi2 : l < i /\ i <= k
     ·rw [if_pos hi2, if_pos ⟨by omega, by omega⟩]
      exact q3 _ _ (by omega) (by omega)
     ·rw [if_neg hi2]
      by_cases hj2 : l < j /\ j <= k
      ·rw [if_pos hj2]
       exact q3 _ _ (by omega) (by omega)
      ·rw [if_neg hj2]
       exact q3 _ _ hij (by omega)
end
end TS
namespace TS
open PySem PyProof.Rows
abbrev maP : Nat -> StateT SortSt Sem Bool := sortPriv% PySem.Builtin.mergeAt
abbrev ctP : Nat -> Nat -> StateT SortSt Sem (Option Nat) := sortPriv% PySem.Builtin.countRun
noncomputable def trips : Nat -> List (List Keyed × Nat) -> List (Nat × Nat × Nat)
 | _, [] => []
 | o, r :: rs => (o, r.1.length, r.2) :: trips (o + r.1.length) rs
noncomputable def flat (rp : List (List Keyed × Nat)) : List Keyed := (rp.map (·.1)).flatten
theorem flat_app (a b : List (List Keyed × Nat)) : flat (a ++ b) = flat a ++ flat b := by unfold flat; simp
theorem flat_cons (r : List Keyed × Nat) (b : List (List Keyed × Nat)) : flat (r :: b) = r.1 ++ flat b := by unfold flat; simp
theorem trips_app : ∀ (a b : List (List Keyed × Nat)) (o : Nat), trips o (a ++ b) = trips o a ++ trips (o + (flat a).length) b
 | [], b, o => by simp [trips, flat]
 | r :: a, b, o => by
  show (o, r.1.length, r.2) :: trips (o + r.1.length) (a ++ b) = _
  rw [trips_app a b, flat_cons, List.length_append]
  show _ = (o, r.1.length, r.2) :: (trips (o + r.1.length) a ++ _)
  rw [Nat.add_assoc]
theorem trips_len : ∀ (a : List (List Keyed × Nat)) (o : Nat), (trips o a).length = a.length
 | [], _ => rfl
 | _ :: a, o => by simp [trips, trips_len a]
theorem split2 {α : Type} {l : List α} {i : Nat} (h : i + 1 < l.length) : ∃ P a b S, l = P ++ a :: b :: S /\ P.length = i := by
 refine ⟨l.take i, l[i], l[i + 1], l.drop (i + 2), ?_, by simp; omega⟩
 rw [<- List.drop_eq_getElem_cons, <- List.drop_eq_getElem_cons, List.take_append_drop]
theorem modify_snoc {α : Type} (f : α -> α) : ∀ (l : List α) (x : α), (l ++ [x]).modify l.length f = l ++ [f x]
 | [], x => by simp
 | a :: l, x => by simp [modify_snoc f l x]
structure SI (κ : SortKind) (lb : Keyed -> Keyed -> Bool) (a₀ : List Keyed) (st : SortSt) (rp : List (List Keyed × Nat)) (rest : List Keyed) : Prop where
 kind : kindOf st = κ
 fail : failedOf st = none
 pend : (pendingOf st).toList = trips 0 rp
 arr : (arrOf st).toList = flat rp ++ rest
 runs : ∀ r ∈ rp, r.1 ≠ [] /\ Up lb r.1
 perm : (arrOf st).toList.Perm a₀
section
variable {prog : Program} {w : World} {A : Around} {E : Value -> Shared -> Prop} {s : Shared} {κ : SortKind} {D : Keyed -> Prop} {lb : Keyed -> Keyed -> Bool} {a₀ : List Keyed} {st : SortSt} {rp : List (List Keyed × Nat)} {rest : List Keyed}
theorem SI.psize (I : SI κ lb a₀ st rp rest) : (pendingOf st).size = rp.length := by rw [<- Array.length_toList, I.pend, trips_len]
theorem SI.many (I : SI κ lb a₀ st rp rest) : rp.length <= (flat rp).length := by
 have := I.runs
 clear I
 induction rp with
 | nil => simp
 | cons r rp ih =>
  have h1 := (this r List.mem_cons_self).1
  have := ih fun r hr => this r (List.mem_cons_of_mem _ hr)
  rw [flat_cons, List.length_append, List.length_cons]
  have : 0 < r.1.length := List.length_pos_iff.mpr h1
  omega
theorem SI.merge (G : Asks prog w A E s κ D lb) (hD : ∀ x ∈ a₀, D x) (I : SI κ lb a₀ st rp rest) {i : Nat} (hi : i + 1 < rp.length) {Q : Bool -> SortSt -> Prop}
  (h : ∀ st' rp', SI κ lb a₀ st' rp' rest -> rp'.length + 1 = rp.length -> Q true st') : wpS (model prog w) A E s (maP i) Q st := by
 obtain ⟨P, ⟨X, pa⟩, ⟨Y, pb⟩, S, rfl, rfl⟩ := split2 hi
 show wpS (model prog w) A E s (mergeAt' P.length) Q st
 have hX := I.runs (X, pa) (by simp)
 have hY := I.runs (Y, pb) (by simp)
 have ep : (pendingOf st).toList = trips 0 P ++ ((flat P).length, X.length, pa) :: ((flat P).length + X.length, Y.length, pb) :: trips ((flat P).length + X.length + Y.length) S := by
  rw [I.pend, trips_app, Nat.zero_add]; rfl
 have ea : (arrOf st).toList = flat P ++ (X ++ (Y ++ (flat S ++ rest))) := by rw [I.arr, flat_app, flat_cons, flat_cons]; simp
 refine wpS_mergeAt G (P := flat P) (X := X) (Y := Y) (S := flat S ++ rest) hX.1 hY.1 (pa := pa) (pb := pb) ?_ ?_ ea (fun x hx => hD x (I.perm.mem_iff.mp hx)) I.kind I.fail hX.2 hY.2 fun M arr' g hm hu e => ?_
 ·rw [<- Array.getElem?_toList, ep, List.getElem?_append_right (by rw [trips_len]; omega), trips_len]; simp
 ·rw [<- Array.getElem?_toList, ep, List.getElem?_append_right (by rw [trips_len]; omega), trips_len]; simp
 ·have hl : M.length = X.length + Y.length := by rw [hm.length_eq, List.length_append]
  refine h _ (P ++ (M, pa) :: S) ⟨I.kind, I.fail, ?_, ?_, ?_, ?_⟩ (by simp; omega)
  ·show (((pendingOf st).setIfInBounds P.length ((flat P).length, X.length + Y.length, pa)).eraseIdxIfInBounds (P.length + 1)).toList = _
   rw [Array.toList_eraseIdxIfInBounds, Array.toList_setIfInBounds, ep, trips_app, Nat.zero_add]
   have e1 : ∀ (L : List (Nat × Nat × Nat)) (x y z : Nat × Nat × Nat) (R : List (Nat × Nat × Nat)) (n : Nat), n = L.length -> ((L ++ x :: y :: R).set n z).eraseIdx (n + 1) = L ++ z :: R := fun L x y z R n hn => by
    subst hn
    rw [List.set_append_right _ _ (Nat.le_refl _), Nat.sub_self, List.set_cons_zero, List.eraseIdx_append_of_length_le (by omega), Nat.add_sub_cancel_left]
    rfl
   rw [e1 _ _ _ _ _ _ (trips_len P 0).symm]
   show _ = trips 0 P ++ ((flat P).length, M.length, pa) :: trips ((flat P).length + M.length) S
   rw [hl, Nat.add_assoc]
  ·show arr'.toList = _
   rw [e, flat_app, flat_cons]; simp
  ·intro r hr
   rcases List.mem_append.mp hr with hr | hr
   ·exact I.runs r (List.mem_append_left _ hr)
   ·rcases List.mem_cons.mp hr with rfl | hr
    ·refine ⟨fun e0 => ?_, hu⟩
     dsimp only at e0
     rw [e0] at hl
     have : 0 < X.length := List.length_pos_iff.mpr hX.1
     simp at hl; omega
    ·exact I.runs r (List.mem_append_right _ (List.mem_cons_of_mem _ (List.mem_cons_of_mem _ hr)))
  ·show arr'.toList.Perm a₀
   refine List.Perm.trans ?_ I.perm
   rw [e, ea]
   refine List.Perm.append_left _ ?_
   rw [<- List.append_assoc X]
   exact List.Perm.append_right _ hm
theorem SI.run (I : SI κ lb a₀ st rp rest) {n : Nat} {st' : SortSt} (B : Bs (flat rp).length st st') (hs : SrtL lb (arrOf st') (flat rp).length n) (h1 : 1 <= n) (hn : (flat rp).length + n <= (arrOf st).size) :
  ∃ X rest', SI κ lb a₀ st' rp (X ++ rest') /\ X.length = n /\ Up lb X := by
 have hsz := B.size
 have e1 : (arrOf st').toList.take (flat rp).length = flat rp := by
  have e2 : (arrOf st').toList.take (flat rp).length = (arrOf st).toList.take (flat rp).length := by
   apply List.ext_getElem?
   intro i
   by_cases hi : i < (flat rp).length
   ·rw [List.getElem?_take_of_lt hi, List.getElem?_take_of_lt hi, Array.getElem?_toList, Array.getElem?_toList]
    exact B.pre i hi
   ·rw [List.getElem?_eq_none (by rw [List.length_take]; omega), List.getElem?_eq_none (by rw [List.length_take]; omega)]
  rw [e2, I.arr, List.take_left]
 have lx : ((((arrOf st').toList.drop (flat rp).length).take n)).length = n := by simp; omega
 refine ⟨((arrOf st').toList.drop (flat rp).length).take n, ((arrOf st').toList.drop (flat rp).length).drop n, ⟨B.kind.trans I.kind, B.fail.trans I.fail, by rw [B.pend]; exact I.pend, ?_, I.runs, (Array.perm_iff_toList_perm.mp B.perm).trans I.perm⟩, lx, ?_⟩
 ·rw [List.take_append_drop]
  conv => rhs; rw [<- e1]
  rw [show (List.take (flat rp).length (arrOf st').toList).length = (flat rp).length by rw [e1]] at *
  rw [List.take_append_drop]
 ·show List.Pairwise _ _
  rw [List.pairwise_iff_getElem]
  intro i j hi hj hij
  rw [lx] at hi hj
  have q := hs i j (by omega) hj
  have ge : ∀ k, k < n -> ∀ hk', (((arrOf st').toList.drop (flat rp).length).take n)[k]'hk' = el (arrOf st') ((flat rp).length + k) := fun k hk hk' => by
   have : (flat rp).length + k < (arrOf st').size := by omega
   simp [el, this]
  rw [ge i hi, ge j hj]
  exact q
end
end TS
namespace TS
open PySem PyProof.Rows
section
variable {prog : Program} {w : World} {A : Around} {E : Value -> Shared -> Prop} {s : Shared} {κ : SortKind} {D : Keyed -> Prop} {lb : Keyed -> Keyed -> Bool} {st : SortSt}
theorem ite_lt {c : Prop} {dc : Decidable c} {a b n : Nat} (h1 : a + 1 < n) (h2 : b + 1 < n) : (if c then a else b) + 1 < n := by split <;> assumption
theorem SI.pw {a₀ : List Keyed} {rp : List (List Keyed × Nat)} {rest : List Keyed} (I : SI κ lb a₀ st rp rest) (hne : rp ≠ []) (pw : Nat) :
  ∃ rp', SI κ lb a₀ (SortSt.mk' (kindOf st) (arrOf st) ((pendingOf st).modify ((pendingOf st).size - 1) fun x => (x.1, x.2.1, pw)) (gallopOf st) (failedOf st)) rp' rest /\ flat rp' = flat rp := by
 obtain ⟨P, ⟨X, p⟩, rfl⟩ : ∃ P r, rp = P ++ [r] := ⟨rp.dropLast, rp.getLast hne, (List.dropLast_concat_getLast hne).symm⟩
 have ef : flat (P ++ [(X, pw)]) = flat (P ++ [(X, p)]) := by rw [flat_app, flat_app]; rfl
 refine ⟨P ++ [(X, pw)], ⟨I.kind, I.fail, ?_, by rw [ef]; exact I.arr, fun r hr => ?_, I.perm⟩, ef⟩
 ·show ((pendingOf st).modify ((pendingOf st).size - 1) fun x => (x.1, x.2.1, pw)).toList = _
  have hs : (pendingOf st).size - 1 = (trips 0 P).length := by rw [I.psize, trips_len]; simp
  rw [hs, Array.toList_modify, I.pend, trips_app, trips_app]
  exact modify_snoc _ _ _
 ·rcases List.mem_append.mp hr with hr | hr
  ·exact I.runs r (List.mem_append_left _ hr)
  ·rw [List.mem_singleton] at hr; subst hr
   exact I.runs (X, p) (by simp)
theorem SI.push {a₀ : List Keyed} {rp : List (List Keyed × Nat)} {X rest : List Keyed} (I : SI κ lb a₀ st rp (X ++ rest)) (h1 : X ≠ []) (hu : Up lb X) :
  SI κ lb a₀ (SortSt.mk' (kindOf st) (arrOf st) ((pendingOf st).push ((flat rp).length, X.length, 0)) (gallopOf st) (failedOf st)) (rp ++ [(X, 0)]) rest := by
 refine ⟨I.kind, I.fail, ?_, ?_, fun r hr => ?_, I.perm⟩
 ·show ((pendingOf st).push ((flat rp).length, X.length, 0)).toList = _
  rw [Array.toList_push, I.pend, trips_app, Nat.zero_add]; rfl
 ·show (arrOf st).toList = _
  rw [I.arr, flat_app]; simp [flat]
 ·rcases List.mem_append.mp hr with hr | hr
  ·exact I.runs r hr
  ·rw [List.mem_singleton] at hr; subst hr; exact ⟨h1, hu⟩
theorem wpS_runs (G : Asks prog w A E s κ D lb) {Q : Unit -> SortSt -> Prop} (hk : kindOf st = κ) (hf : failedOf st = none) (hp : pendingOf st = #[]) (hD : ∀ x ∈ (arrOf st).toList, D x)
  (h : ∀ st', failedOf st' = none -> (arrOf st').toList.Perm (arrOf st).toList -> Up lb (arrOf st').toList -> Q () st') : wpS (model prog w) A E s sortRuns' Q st := by
 have I0 : SI κ lb (arrOf st).toList st [] (arrOf st).toList := ⟨hk, hf, by rw [hp]; rfl, rfl, fun _ hr => absurd hr (by simp), List.Perm.refl _⟩
 have hsz : ∀ {st' rp rest}, SI κ lb (arrOf st).toList st' rp rest -> (arrOf st').size = (arrOf st).size := fun I => by
  have := I.perm.length_eq; simpa using this
 unfold sortRuns'
 refine wpS_bind (wpS_get ?_)
 extract_lets -underBinder
 dsimp -zeta -zetaHave +zetaDelta only
 refine wpS_bind (wpS_mono (wpS_forRange (I := fun k c st' => c.1 = none /\ ∃ rp rest, SI κ lb (arrOf st).toList st' rp rest /\ (flat rp).length = c.2 /\ min k (arrOf st).size <= c.2 /\ c.2 <= (arrOf st).size)
  (Q := fun c st' => c.1 = none /\ ∃ rp, SI κ lb (arrOf st).toList st' rp [] /\ (flat rp).length = (arrOf st).size) ?step ?fin ⟨rfl, [], _, I0, rfl, by dsimp only; omega, by dsimp only; omega⟩) ?post)
 case fin =>
  rintro ⟨r, lo⟩ st' ⟨q1, rp, rest, I, q2, q3, q4⟩
  dsimp only at q1 q2 q3 q4
  have hz := hsz I
  have e : (flat rp).length = (arrOf st).size := by
   have : max 0 (arrOf st).size = (arrOf st).size := by omega
   have q3 : min (max 0 (arrOf st).size) (arrOf st).size <= lo := q3
   omega
  have : rest = [] := by
   have := congrArg List.length I.arr
   rw [List.length_append, Array.length_toList] at this
   exact List.length_eq_zero_iff.mp (by omega)
  subst this
  exact ⟨q1, rp, I, e⟩
 case step =>
  rintro k ⟨r, lo⟩ st' _ hkn ⟨q1, rp, rest, I, q2, q3, q4⟩
  dsimp only at q1 q2 q3 q4
  subst q1
  have hz := hsz I
  have hla : (arrOf st).size = (flat rp).length + rest.length := by
   have := congrArg List.length I.arr
   rw [List.length_append, Array.length_toList] at this
   omega
  extract_lets -underBinder +onlyGivenNames v1 v2
  dsimp -zeta -zetaHave +zetaDelta only
  refine wpS_ite (fun hge => ?_) fun hge => ?_
  ·have hge : (arrOf st).size <= lo := hge
   have : rest = [] := List.length_eq_zero_iff.mp (by omega)
   subst this
   exact wpS_pure ⟨rfl, rp, I, by omega⟩
  have hge : ¬ (arrOf st).size <= lo := hge
  subst q2
  have dd : ∀ x ∈ (arrOf st').toList, D x := fun x hx => hD x (I.perm.mem_iff.mp hx)
  show wpS (model prog w) A E s (ctP (flat rp).length ((arrOf st).size - (flat rp).length) >>= _) _ st'
  refine wpS_bind (wpS_countL G (lo := (flat rp).length) (nrem := (arrOf st).size - (flat rp).length) I.kind dd (by omega) (by omega) fun n st2 n1 n2 B hs => ?_)
  dsimp -zeta -zetaHave only
  extract_lets -underBinder +onlyGivenNames v3
  extract_lets -underBinder +onlyGivenNames jp1
  refine wpS_jpS jp1 (fun m st3 => ∃ X rest', SI κ lb (arrOf st).toList st3 rp (X ++ rest') /\ X.length = m /\ Up lb X /\ X ≠ []) (fun m st3 hX => ?hv1) fun hjp => ?hb1
  case hb1 =>
   clear_value jp1
   have conv : ∀ {m st3}, Bs (flat rp).length st' st3 -> SrtL lb (arrOf st3) (flat rp).length m -> 1 <= m -> m <= (arrOf st).size - (flat rp).length -> ∃ X rest', SI κ lb (arrOf st).toList st3 rp (X ++ rest') /\ X.length = m /\ Up lb X /\ X ≠ [] := fun B hs h1 h2 => by
    obtain ⟨X, rest', I', lx, ux⟩ := I.run B hs h1 (by omega)
    exact ⟨X, rest', I', lx, ux, fun e => by subst e; simp at lx; omega⟩
   refine wpS_ite (fun hlt => ?_) fun hlt => hjp _ _ (conv B hs n1 n2)
   refine wpS_bind (wpS_rule (wpS_bind (wpS_binL G (lo := (flat rp).length) I.kind dd ?_ n1 ?_ B hs fun st3 B3 hs3 => ?_)))
   ·show (flat rp).length + min ((arrOf st).size - (flat rp).length) _ <= (arrOf st').size
    omega
   ·show n <= min ((arrOf st).size - (flat rp).length) _
    omega
   ·refine wpS_ite (fun hfalse => by cases hfalse) fun _ => hjp _ _ (conv B3 hs3 ?_ ?_)
    ·show 1 <= min ((arrOf st).size - (flat rp).length) _
     omega
    ·show min ((arrOf st).size - (flat rp).length) _ <= _
     omega
  case hv1 =>
  obtain ⟨X, rest', I3, rfl, ux, nx⟩ := hX
  dsimp -zeta -zetaHave only [jp1]
  refine wpS_bind (wpS_get ?_)
  extract_lets -underBinder +onlyGivenNames jp2
  refine wpS_jp0 jp2 (fun st4 => ∃ rp', SI κ lb (arrOf st).toList st4 rp' (X ++ rest')) (fun st4 hs4 => ?hv2) fun hjp => ?hb2
  case hv2 =>
   dsimp only [jp2]
   obtain ⟨rp', I4⟩ := hs4
   have e4 : (flat rp').length = (flat rp).length := by
    have l3 := congrArg List.length I3.arr
    have l4 := congrArg List.length I4.arr
    have z3 := hsz I3
    have z4 := hsz I4
    rw [List.length_append, Array.length_toList] at l3 l4
    omega
   have I5 := I4.push nx ux
   rw [e4] at I5
   refine wpS_bind (wpS_modify (wpS_pure ⟨rfl, _, _, I5, ?_, ?_, ?_⟩))
   ·show _ = (flat rp).length + X.length
    rw [flat_app, List.length_append, e4]; simp [flat]
   ·show min (k + 1) _ <= (flat rp).length + X.length
    have : 0 < X.length := List.length_pos_iff.mpr nx
    omega
   ·show (flat rp).length + X.length <= _
    have := congrArg List.length I3.arr
    have z3 := hsz I3
    rw [List.length_append, List.length_append, Array.length_toList] at this
    omega
  case hb2 =>
  clear_value jp2
  cases hb : (pendingOf st3).back? with
  | none => exact hjp _ ⟨rp, I3⟩
  | some t =>
   obtain ⟨s1, n1', p1⟩ := t
   have hne : rp ≠ [] := fun e => by
    subst e
    have := I3.psize
    have e0 : pendingOf st3 = #[] := Array.size_eq_zero_iff.mp (by simpa using this)
    rw [e0] at hb
    simp at hb
   try dsimp only
   refine wpS_bind (wpS_mono (wpS_forRange (I := fun k c st' => c.1 = none /\ ∃ rp, SI κ lb (arrOf st).toList st' rp (X ++ rest') /\ rp ≠ []) (Q := fun c st' => c.1 = none /\ ∃ rp, SI κ lb (arrOf st).toList st' rp (X ++ rest') /\ rp ≠ [])
    ?step2 ?fin2 ⟨rfl, rp, I3, hne⟩) ?post2)
   case fin2 => exact fun c st' hc => hc
   case step2 =>
    rintro k' ⟨r, u⟩ st4 _ _ ⟨q1, rp4, I4, ne4⟩
    dsimp only at q1
    subst q1
    try dsimp only
    refine wpS_bind (wpS_get ?_)
    have ps := I4.psize
    show wpS (model prog w) A E s (match (if (pendingOf st4).size > 1 then (pendingOf st4)[(pendingOf st4).size - 2]? else none) with | some (a, b, c) => _ | x => _) _ st4
    by_cases h2 : (pendingOf st4).size > 1
    ·rw [if_pos h2]
     cases ht : (pendingOf st4)[(pendingOf st4).size - 2]? with
     | none => exact wpS_pure ⟨rfl, rp4, I4, ne4⟩
     | some t =>
      obtain ⟨x1, x2, x3⟩ := t
      try dsimp only
      refine wpS_ite (fun _ => wpS_pure ⟨rfl, rp4, I4, ne4⟩) fun _ => ?_
      refine wpS_bind (I4.merge G hD (i := (pendingOf st4).size - 2) (by omega) fun st5 rp5 I5 l5 => ?_)
      refine wpS_ite (fun hfalse => by cases hfalse) fun _ => wpS_pure ⟨rfl, rp5, I5, fun e => ?_⟩
      subst e
      simp at l5
      omega
    ·rw [if_neg h2]
     exact wpS_pure ⟨rfl, rp4, I4, ne4⟩
   case post2 =>
    rintro ⟨r, u⟩ st4 ⟨q1, rp4, I4, ne4⟩
    dsimp only at q1
    subst q1
    try dsimp only
    refine wpS_bind (wpS_modify ?_)
    obtain ⟨rp5, I5, _⟩ := I4.pw ne4 _
    exact hjp _ ⟨rp5, I5⟩
 case post =>
  rintro ⟨r, lo⟩ st1 ⟨q1, rp, I, e⟩
  dsimp only at q1
  subst q1
  try dsimp only
  refine wpS_bind (wpS_mono (wpS_forRange (I := fun k c st' => c.1 = none /\ ∃ rp, SI κ lb (arrOf st).toList st' rp [] /\ (rp.length <= 1 \/ rp.length + k <= (arrOf st).size)) (Q := fun c st' => c.1 = none /\ ∃ rp, SI κ lb (arrOf st).toList st' rp [] /\ rp.length <= 1)
    ?step2 ?fin2 ⟨rfl, rp, I, .inr (by have := I.many; omega)⟩) ?post2)
  case fin2 =>
   rintro ⟨r, u⟩ st' ⟨q1, rp, I, q2⟩
   refine ⟨q1, rp, I, ?_⟩
   have q2 : rp.length <= 1 \/ rp.length + max 0 (arrOf st).size <= (arrOf st).size := q2
   omega
  case step2 =>
   rintro k' ⟨r, u⟩ st4 _ hk' ⟨q1, rp4, I4, l4⟩
   dsimp only at q1
   subst q1
   try dsimp only
   refine wpS_bind (wpS_get ?_)
   have ps := I4.psize
   refine wpS_ite (fun h1 => ?_) fun h1 => ?_
   ·have h1 : (pendingOf st4).size <= 1 := h1
    exact wpS_pure ⟨rfl, rp4, I4, by omega⟩
   have h1 : ¬ (pendingOf st4).size <= 1 := h1
   refine wpS_bind (I4.merge G hD ?_ fun st5 rp5 I5 l5 => ?_)
   ·refine ite_lt (show (pendingOf st4).size - 2 - 1 + 1 < rp4.length by omega) (show (pendingOf st4).size - 2 + 1 < rp4.length by omega)
   ·exact wpS_ite (fun hfalse => by cases hfalse) fun _ => wpS_pure ⟨rfl, rp5, I5, by omega⟩
  case post2 =>
   rintro ⟨r, u⟩ st4 ⟨q1, rp4, I4, l4⟩
   dsimp only at q1
   subst q1
   refine wpS_pure (h _ I4.fail I4.perm ?_)
   rw [I4.arr, List.append_nil]
   match rp4, l4, I4.runs with
   | [], _, _ => exact List.Pairwise.nil
   | [x], _, hr =>
    have := (hr x List.mem_cons_self).2
    rw [flat_cons]; simpa [flat] using this
end
end TS
namespace L4
open PySem PySem.W PySem.Calls PyProof.Rows
section
variable {prog : Program} {w : World} {A : Around} {E : Value -> Shared -> Prop} {s : Shared}
def Core (prog : Program) (w : World) (A : Around) (E : Value -> Shared -> Prop) (vs : List Value) (Out : Array Value -> Prop) (s6 : Shared) : Prop :=
 wpAny (model prog w) A (keyKind' vs.toArray) (fun κ s' => s' = s6 /\ wpAny (model prog w) A ((sortRuns').run (SortSt.mk' κ (vs.toArray.zip vs.toArray) #[] 7 none))
  (fun r s'' => s'' = s6 /\ failedOf r.2 = none /\ Out ((arrOf r.2).map (·.2)) /\ (arrOf r.2).size = vs.length) E s') E s6
theorem list_sort_by {a : Addr} {vs : List Value} {n : Nat} {P : PySem.Fin -> Shared -> Prop} {Out : Array Value -> Prop} (ho : s.heap.get? a = some (seqObj "list" vs.toArray n)) (hz : vs.length <= sizeLine)
  (core : 2 <= vs.length -> ∀ s6 : Shared, (∀ b o, b ≠ a -> s.heap.get? b = some o -> s6.heap.get? b = some o) -> Core prog w A E vs Out s6) (short : vs.length < 2 -> Out vs.toArray)
  (fin : ∀ out : Array Value, Out out -> out.size = vs.length -> P (.done (.ret .none)) { s with heap := sortedHeap s.heap a vs out }) :
  wpAny (model prog w) A (Builtin.«list.sort» ⟨[.ref a], []⟩) P E s := by
 have ha : a < s.heap.objs.size := Heap.lt_size ho
 obtain ⟨e1, g1⟩ : ∃ e1, (s.heap.update a (Obj.mapSeq fun _ => #[])).get? a = some (seqObj "list" #[] e1) := ⟨_, get?_update_seq ho (fun _ => #[])⟩
 have hz' : vs.toArray.size <= sizeLine := by rw [List.size_toArray]; exact hz
 have g6 : (((s.heap.update a (Obj.mapSeq fun _ => #[])).push (seqObj "tuple" vs.toArray 0)).push (seqObj "list" #[] 0)).get? a = some (seqObj "list" #[] e1) := Heap.get?_push_of_some _ (Heap.get?_push_of_some _ g1)
 have keep : ∀ b o, b ≠ a -> s.heap.get? b = some o -> (((s.heap.update a (Obj.mapSeq fun _ => #[])).push (seqObj "tuple" vs.toArray 0)).push (seqObj "list" #[] 0)).get? b = some o :=
  fun b o hb e => Heap.get?_push_of_some _ (Heap.get?_push_of_some _ (by rw [Heap.get?_update_ne _ _ _ _ hb]; exact e))
 rw [list_sort_plain]
 refine wpAny_bind (listItems_at ho rfl (wpAny_bind (listUpdate_at ho rfl (wpAny_bind (seqEpoch_at g1 rfl (wpAny_bind (wpAny_newTuple (wpAny_bind (wpAny_newList (wpAny_holding ?_))) (by simpa using hz))))) hz' (Nat.zero_le _))))
 by_cases h2 : vs.toArray.size < 2
 ·rw [if_pos h2, if_pos h2]
  have e2 : (arrOf (SortSt.mk' general' (vs.toArray.zip vs.toArray) #[] 7 none)).map (·.2) = vs.toArray := by
   show (vs.toArray.zip vs.toArray).map (·.2) = vs.toArray
   apply Array.ext (by simp)
   intro i h1 h2
   simp
  refine wpAny_bind (wpAny_pure ?_)
  dsimp only
  rw [StateT.run_pure]
  refine wpAny_bind (wpAny_pure ?_)
  dsimp only
  refine wpAny_bind (seqEpoch_at g6 rfl (wpAny_bind (listUpdate_at g6 rfl ?_ (Nat.zero_le _) ?_)))
  ·simp only [bne_self_eq_false, Bool.false_eq_true, if_false]
   have q := fin _ (e2 ▸ short (by simpa using h2)) (by rw [e2]; simp)
   exact wpAny_pure q
  ·show (((arrOf (SortSt.mk' general' (vs.toArray.zip vs.toArray) #[] 7 none)).map (·.2))).size <= sizeLine + 1
   rw [e2]; omega
 ·rw [if_neg h2, if_neg h2]
  have h2' : 2 <= vs.length := by simpa using h2
  refine wpAny_bind (wpAny_mono (core h2' _ keep) (fun κ s7 ⟨hs, h7⟩ => ?_) fun _ _ z => z)
  subst hs
  refine wpAny_bind (wpAny_mono h7 (fun r s8 ⟨hs, hf, hout, hsz⟩ => ?_) fun _ _ z => z)
  subst hs
  obtain ⟨⟨⟩, st⟩ := r
  refine wpAny_bind (seqEpoch_at g6 rfl (wpAny_bind (listUpdate_at g6 rfl ?_ (Nat.zero_le _) ?_)))
  ·have hf' : failedOf st = none := hf
   rw [hf']
   simp only [bne_self_eq_false, Bool.false_eq_true, if_false]
   exact wpAny_pure (fin _ hout (by rw [Array.size_map]; exact hsz))
  ·show ((arrOf st).map (·.2)).size <= sizeLine + 1
   rw [Array.size_map]
   have : (arrOf st).size = vs.length := hsz
   omega
theorem sorted_by {l : Addr} {vs : List Value} {Q : Value -> Shared -> Prop} {Out : Array Value -> Prop} (hl : s.heap.IsList l vs.toArray) (hz : vs.length <= sizeLine)
  (core : 2 <= vs.length -> ∀ s6 : Shared, (∀ b o, s.heap.get? b = some o -> s6.heap.get? b = some o) -> Core prog w A.in1.in1 E vs Out s6) (short : vs.length < 2 -> Out vs.toArray)
  (fin : ∀ out : Array Value, Out out -> out.size = vs.length -> Q (.ref (s.heap.objs.size + 1)) { s with heap := sortedAll s.heap vs out }) :
  wpAny (model prog w) A (call (.builtin "sorted") [.ref l]) Q E s := by
 have hsz : ((s.heap.push (seqObj "list" #[] 0)).update s.heap.objs.size (Obj.mapSeq (· ++ vs.toArray))).objs.size = s.heap.objs.size + 1 := by
  rw [Heap.size_update, size_push']
 have hoL : (((s.heap.push (seqObj "list" #[] 0)).update s.heap.objs.size (Obj.mapSeq (· ++ vs.toArray))).push (seqObj "list" vs.toArray 0)).get? (s.heap.objs.size + 1) = some (seqObj "list" vs.toArray 0) := hsz ▸ Heap.get?_push_size _ rfl
 have keep : ∀ b o, s.heap.get? b = some o -> (((s.heap.push (seqObj "list" #[] 0)).update s.heap.objs.size (Obj.mapSeq (· ++ vs.toArray))).push (seqObj "list" vs.toArray 0)).get? b = some o := fun b o q =>
  Heap.get?_push_of_some _ (by rw [Heap.get?_update_ne _ _ _ _ (Nat.ne_of_lt (Heap.lt_size q))]; exact Heap.get?_push_of_some _ q)
 refine Calls.call_function_entry kind_sorted plain_sorted entry_sorted (args_sorted1 _) ?_
 unfold Builtin.«sorted»
 refine wpAny_bind (m := checkCount "sorted" 1 1 _) (wpAny_pure (wpAny_bind (collect_list hl (wpAny_bind (wpAny_newList ?_ hz)) hz)))
 show wpAny _ _ _ _ _ { s with heap := ((s.heap.push (seqObj "list" #[] 0)).update s.heap.objs.size (Obj.mapSeq (· ++ vs.toArray))).push (seqObj "list" vs.toArray 0) }
 rw [hsz]
 refine wpAny_bind (wpAny_holding (wpAny_call_entry slot_list_sort ⟨_, hoL, rfl⟩ entry_list_sort (list_sort_by hoL hz (fun h2 s6 k => core h2 s6 fun b o q => k b o ?_ (keep b o q)) short fun out h1 h2 => ⟨_, rfl, ?_⟩) (args_list_sort _)))
 ·exact Nat.ne_of_lt (Nat.lt_succ_of_lt (Heap.lt_size q))
 ·exact wpAny_pure ⟨_, rfl, fin out h1 h2⟩
end
end L4
namespace L4
open PySem PySem.W PySem.Calls PyProof.Rows L2
theorem lex_as : ∀ a b : List Int, HT.lexLt a b = true -> HT.lexLt b a = false
 | [], [], h => by cases h
 | [], _ :: _, _ => rfl
 | _ :: _, [], h => by cases h
 | x :: a, y :: b, h => by
  rw [HT.lexLt_cons] at h ⊢
  by_cases e : x = y
  ·subst e; rw [if_pos rfl] at h ⊢; exact lex_as a b h
  ·rw [if_neg e] at h; rw [if_neg (Ne.symm e)]
   have := of_decide_eq_true h
   exact decide_eq_false (by omega)
theorem lex_anti : ∀ a b : List Int, HT.lexLt a b = false -> HT.lexLt b a = false -> a = b
 | [], [], _, _ => rfl
 | [], _ :: _, h, _ => by cases h
 | _ :: _, [], _, h => by cases h
 | x :: a, y :: b, h, h' => by
  rw [HT.lexLt_cons] at h h'
  by_cases e : x = y
  ·subst e; rw [if_pos rfl] at h h'; rw [lex_anti a b h h']
  ·rw [if_neg e] at h; rw [if_neg (Ne.symm e)] at h'
   have h1 := of_decide_eq_false h
   have h2 := of_decide_eq_false h'
   omega
theorem lex_tr : ∀ a b c : List Int, HT.lexLt b a = false -> HT.lexLt c b = false -> HT.lexLt c a = false
 | [], [], [], _, _ => rfl
 | [], [], _ :: _, _, h => h
 | [], _ :: _, [], _, h => by cases h
 | [], _ :: _, _ :: _, _, _ => rfl
 | _ :: _, [], _, h, _ => by cases h
 | _ :: _, _ :: _, [], _, h => by cases h
 | x :: a, y :: b, z :: c, h, h' => by
  rw [HT.lexLt_cons] at h h' ⊢
  by_cases e1 : y = x
  ·subst e1
   rw [if_pos rfl] at h
   by_cases e2 : z = y
   ·subst e2; rw [if_pos rfl] at h' ⊢; exact lex_tr a b c h h'
   ·rw [if_neg e2] at h' ⊢; exact h'
  ·rw [if_neg e1] at h
   have h1 := of_decide_eq_false h
   by_cases e2 : z = y
   ·subst e2; rw [if_neg e1]; exact h
   ·rw [if_neg e2] at h'
    have h2 := of_decide_eq_false h'
    rw [if_neg (by omega)]
    exact decide_eq_false (by omega)
theorem perm_eq {α : Type} {r : α -> α -> Prop} (an : ∀ a b, r a b -> r b a -> a = b) : ∀ {l₁ l₂ : List α}, l₁.Perm l₂ -> l₁.Pairwise r -> l₂.Pairwise r -> l₁ = l₂
 | [], l₂, h, _, _ => (List.nil_perm.mp h).symm
 | a :: l₁, [], h, _, _ => absurd (List.perm_nil.mp h) (by simp)
 | a :: l₁, b :: l₂, h, h1, h2 => by
  have hab : a = b := by
   have ha : a ∈ b :: l₂ := h.mem_iff.mp List.mem_cons_self
   have hb : b ∈ a :: l₁ := h.mem_iff.mpr List.mem_cons_self
   rcases List.mem_cons.mp ha with e | ha
   ·exact e
   ·rcases List.mem_cons.mp hb with e | hb
    ·exact e.symm
    ·exact an _ _ (List.rel_of_pairwise_cons h1 hb) (List.rel_of_pairwise_cons h2 ha)
  subst hab
  rw [perm_eq an (List.Perm.cons_inv h) (List.pairwise_cons.mp h1).2 (List.pairwise_cons.mp h2).2]
noncomputable def sortR (rows : List (List Int)) : List (List Int) := rows.mergeSort fun a b => !HT.lexLt b a
theorem sortR_perm (rows : List (List Int)) : (sortR rows).Perm rows := List.mergeSort_perm _ _
theorem sortR_sorted (rows : List (List Int)) : (sortR rows).Pairwise fun a b => HT.lexLt b a = false := by
 have := List.pairwise_mergeSort (le := fun a b : List Int => !HT.lexLt b a) (fun a b c h1 h2 => by simp at h1 h2 ⊢; exact lex_tr a b c h1 h2)
  (fun a b => by
   cases h : HT.lexLt b a with
   | false => simp
   | true => simp [lex_as b a h]) rows
 exact this.imp fun h => by simpa using h
theorem sortR_unique {rows out : List (List Int)} (hp : out.Perm rows) (hs : out.Pairwise fun a b => HT.lexLt b a = false) : out = sortR rows :=
 perm_eq (fun a b h1 h2 => lex_anti a b h2 h1) (hp.trans (sortR_perm rows).symm) hs (sortR_sorted rows)
section
variable {prog : Program} {w : World} {A : Around} {E : Value -> Shared -> Prop} {s : Shared} {Q : Bool -> Shared -> Prop}
theorem katlex {b : Bool} : ∀ (ns ms : List Int) (us ws : List Value) (i : Nat), IntsAre us ns -> IntsAre ws ms -> Q (HT.lexLt ns ms) s -> KatLex prog w A b (decide (ns.length < ms.length)) Q (us.zip ws) i s
 | [], [], _, _, _, .nil, .nil, h => kat_nil (by simpa [HT.lexLt] using h)
 | [], _ :: _, _, _, _, .nil, .cons _ _ _, h => kat_nil (by simpa [HT.lexLt] using h)
 | _ :: _, [], _, _, _, .cons _ _ _, .nil, h => kat_nil (by simpa [HT.lexLt] using h)
 | n :: ns, m :: ms, _, _, i, .cons _ t hu, .cons _ u hw, h => by
  rw [HT.lexLt_cons] at h
  refine kat_cons (SeqAt.EqAt.int_int n t m u prog w _ _ (kat_go (fun e => kat_yes ?_) fun e => kat_no ?_))
  ·have e' : n = m := by simpa using e
   rw [if_pos e'] at h
   rw [show decide ((n :: ns).length < (m :: ms).length) = decide (ns.length < ms.length) by simp]
   exact katlex ns ms _ _ (i + 1) hu hw h
  ·have e' : ¬ n = m := by simpa using e
   rw [if_neg e'] at h
   cases b && i == 0 with
   | true => exact kat_lt_int h
   | false => exact kat_one _ _ (lt_int h)
def RowsAt (h : Heap) : List Value -> List (List Int) -> Prop := Paired fun v r => r ≠ [] /\ ∃ b o its n, v = .ref b /\ h.get? b = some o /\ o.cls = .type "tuple" /\ o.data = .seq its n /\ IntsAre its.toList r
theorem RowsAt.firsts {h : Heap} : ∀ {vs : List Value} {rows : List (List Int)}, RowsAt h vs rows -> ∃ fs, KatTups h vs fs /\ fs.length = vs.length /\ ∀ v ∈ fs, ∃ n t, v = Value.int n t
 | _, _, .nil => ⟨[], KatTups.nil, rfl, fun _ hv => absurd hv (by simp)⟩
 | _, _, .cons ⟨hne, b, o, its, n, hv, ho, hc, hd, hi⟩ r => by
  obtain ⟨fs, h1, h2, h3⟩ := RowsAt.firsts r
  subst hv
  obtain ⟨its⟩ := its
  cases hi with
  | nil => exact absurd rfl hne
  | cons k t _ => exact ⟨.int k t :: fs, KatTups.cons ho hc hd rfl h1, by simp [h2], fun v hv => (List.mem_cons.mp hv).elim (fun e => ⟨k, t, e⟩) (h3 v)⟩
theorem Paired.at' {α β : Type} {F : α -> β -> Prop} : ∀ {l₁ : List α} {l₂ : List β} {i : Nat}, Paired F l₁ l₂ -> i < l₁.length -> ∀ (d : α) (e : β), F (l₁.getD i d) (l₂.getD i e)
 | _, _, _, .nil, h, _, _ => absurd h (by simp)
 | _, _, 0, .cons r _, _, _, _ => r
 | _, _, i + 1, .cons _ t, h, d, e => by simpa using Paired.at' (i := i) t (by simpa using h) d e
def OutR (vs : List Value) (rows : List (List Int)) (out : Array Value) : Prop :=
 ∃ idx : List Nat, idx.Perm (List.range vs.length) /\ out.toList = idx.map (fun i => vs.getD i Value.none) /\ (idx.map fun i => rows.getD i []).Pairwise fun a b => HT.lexLt b a = false
noncomputable def rowOf (h : Heap) : Value -> List Int
 | .ref b => match h.get? b with
  | some o => match o.data with
   | .seq its _ => its.toList.map numOf
   | _ => []
  | none => []
 | _ => []
theorem nums_of {vs : List Value} {ns : List Int} (h : IntsAre vs ns) : vs.map numOf = ns := by
 induction h with
 | nil => rfl
 | cons n t _ ih => rw [List.map_cons, ih]; rfl
theorem rowOf_eq {h : Heap} {b : Addr} {o : Obj} {its : Array Value} {n : Nat} {r : List Int} (e : h.get? b = some o) (d : o.data = .seq its n) (q : IntsAre its.toList r) : rowOf h (.ref b) = r := by
 show (match h.get? b with | some o => (match o.data with | .seq its _ => its.toList.map numOf | _ => []) | none => []) = r
 rw [e]; dsimp only; rw [d]; exact nums_of q
theorem asks_rows {b : Bool} : TS.Asks prog w A E s (tuples' b) (fun x => ∃ a o its n r, x.1 = .ref a /\ s.heap.get? a = some o /\ o.data = .seq its n /\ IntsAre its.toList r)
  fun x y => HT.lexLt (rowOf s.heap x.1) (rowOf s.heap y.1) := by
 refine ⟨fun {x y st Q} hx hy hk h => ?_, fun h1 h2 => lex_tr _ _ _ h1 h2, fun h => lex_as _ _ h⟩
 obtain ⟨a1, o1, its1, n1, r1, e1, g1, d1, q1⟩ := hx
 obtain ⟨a2, o2, its2, n2, r2, e2, g2, d2, q2⟩ := hy
 rw [e1, e2, rowOf_eq g1 d1 q1, rowOf_eq g2 d2 q2] at h
 show wpS (model prog w) A E s (lt' x y) Q st
 rw [lt'_eq]
 refine wpS_bind (wpS_get ?_)
 rw [hk, e1, e2]
 have l1 := q1.length
 have l2 := q2.length
 rw [Array.length_toList] at l1 l2
 refine wpS_bind (wpS_lift (wpAny_attempt (kat_lt g1 d1 g2 d2 ?_)))
 rw [l1, l2]
 exact katlex _ _ _ _ 0 q1 q2 ⟨rfl, wpS_pure h⟩
theorem perm_map_ex {α β : Type} (f : α -> β) {l m : List β} (h : l.Perm m) : ∀ {k : List α}, m = k.map f -> ∃ k' : List α, k'.Perm k /\ l = k'.map f := by
 induction h with
 | nil =>
  intro k e
  cases k with
  | nil => exact ⟨[], List.Perm.nil, rfl⟩
  | cons _ _ => cases e
 | cons x _ ih =>
  intro k e
  cases k with
  | nil => cases e
  | cons a k =>
   injection e with e1 e2
   obtain ⟨k', p, rfl⟩ := ih e2
   exact ⟨a :: k', p.cons a, by rw [e1]; rfl⟩
 | swap x y l =>
  intro k e
  match k, e with
  | a :: b :: k, e =>
   injection e with e1 e2
   injection e2 with e2 e3
   exact ⟨b :: a :: k, .swap _ _ _, by rw [e1, e2, e3]; rfl⟩
 | trans _ _ ih1 ih2 =>
  intro k e
  obtain ⟨k2, p2, e2⟩ := ih2 e
  obtain ⟨k1, p1, e1⟩ := ih1 e2
  exact ⟨k1, p1.trans p2, e1⟩
theorem core_rowsG {vs : List Value} {rows : List (List Int)} (r : RowsAt s.heap vs rows) (h2 : 2 <= vs.length) : Core prog w A E vs (OutR vs rows) s := by
 obtain ⟨fs, t, hl, hf⟩ := r.firsts
 have zl : (vs.toArray.zip vs.toArray).toList = (List.range vs.length).map fun i => (vs.getD i Value.none, vs.getD i Value.none) := by
  refine List.ext_getElem (by simp) fun i h1 h2 => ?_
  have hi : i < vs.length := by simpa using h2
  simp [hi]
 have rw_at : ∀ i, i < vs.length -> ∃ a o its n, vs.getD i Value.none = .ref a /\ s.heap.get? a = some o /\ o.data = .seq its n /\ IntsAre its.toList (rows.getD i []) := fun i hi => by
  obtain ⟨_, b1, o1, its1, n1, e1, g1, _, d1, q1⟩ := Paired.at' r hi Value.none []
  exact ⟨b1, o1, its1, n1, e1, g1, d1, q1⟩
 unfold Core
 refine kat_kind (T := .type "int") t (by omega) (fun v hv => ?_) rfl ⟨rfl, ?_⟩
 ·obtain ⟨n, t, rfl⟩ := hf v hv
  exact Looks.of_pure rfl
 ·refine wpAny_mono (TS.wpS_runs (E := E) (s := s) asks_rows (st := SortSt.mk' _ (vs.toArray.zip vs.toArray) #[] 7 none) (Q := fun _ st => failedOf st = none /\ OutR vs rows ((arrOf st).map (·.2)) /\ (arrOf st).size = vs.length)
   rfl rfl rfl ?_ fun st hf' hp hu => ?_) (fun a s' z => ⟨z.1, z.2⟩) fun _ _ z => z
  ·intro x hx
   have hx : x ∈ (vs.toArray.zip vs.toArray).toList := hx
   rw [zl] at hx
   obtain ⟨i, hi, rfl⟩ := List.mem_map.mp hx
   obtain ⟨a, o, its, n, e, g, d, q⟩ := rw_at i (by simpa using hi)
   exact ⟨a, o, its, n, _, e, g, d, q⟩
  ·have hp : (arrOf st).toList.Perm (vs.toArray.zip vs.toArray).toList := hp
   obtain ⟨idx, p1, e1⟩ := perm_map_ex (fun i => (vs.getD i Value.none, vs.getD i Value.none)) hp zl
   have sz : (arrOf st).size = vs.length := by
    have := hp.length_eq
    simpa using this
   refine ⟨hf', ⟨idx, p1, ?_, ?_⟩, sz⟩
   ·rw [Array.toList_map, e1, List.map_map]; rfl
   ·rw [e1] at hu
    unfold TS.Up at hu
    rw [List.pairwise_map] at hu ⊢
    refine List.Pairwise.imp_of_mem (fun {i j} hi hj hr => ?_) hu
    have hi : i < vs.length := by simpa using p1.mem_iff.mp hi
    have hj : j < vs.length := by simpa using p1.mem_iff.mp hj
    obtain ⟨a1, o1, its1, n1, c1, g1, d1, q1⟩ := rw_at i hi
    obtain ⟨a2, o2, its2, n2, c2, g2, d2, q2⟩ := rw_at j hj
    dsimp only at hr
    rwa [c1, c2, rowOf_eq g1 d1 q1, rowOf_eq g2 d2 q2] at hr
theorem core_rows {vs : List Value} {rows : List (List Int)} (r : RowsAt s.heap vs rows) (h2 : 2 <= vs.length) (_ : vs.length < 128) : Core prog w A E vs (OutR vs rows) s := core_rowsG r h2
end
section
variable {X : Cx}
theorem call_sortedRG : CallR X (.builtin "sorted") (fun xs H Q => ∃ p ys, ∃ rows : List (List Int), xs = [.ref p] /\ SqL X.K H p ys /\ Paired (fun v r => r ≠ [] /\ ∃ b, v = V.ref b /\ SqT X.K H b (r.map V.int)) ys rows /\ rows.length < 128 /\
  ∀ (l : Addr) (idx : List Nat), H l = none -> idx.Perm (List.range ys.length) -> (idx.map fun i => rows.getD i []).Pairwise (fun a b => HT.lexLt b a = false) -> Q (.ref l) (upd H l (.lst (idx.map fun i => ys.getD i .non)))) := by
 intro pins s σ H xs us Q I r h
 obtain ⟨p, ys, rows, rfl, hq, hr, h64, q⟩ := h
 obtain ⟨u, rfl, ru⟩ := vals1 r
 cases ru
 obtain ⟨its, rv, pl, hz⟩ := I.list hq
 have hl := rv.length
 have hlr : ys.length = rows.length := Paired.length hr
 have rows_at : ∀ h6 : Heap, (∀ b o, s.heap.get? b = some o -> h6.get? b = some o) -> RowsAt h6 its rows := fun h6 k => by
  clear q hz hl hlr h64 hq pl r
  induction hr generalizing its with
  | nil => cases rv; exact .nil
  | cons g t ih =>
   cases rv with
   | cons r1 r2 =>
    refine .cons ?_ (ih _ r2)
    obtain ⟨hne, b, rfl, hb⟩ := g
    cases r1
    obtain ⟨its2, rv2, ⟨o, e, hc, n, hd⟩, _⟩ := I.tuple hb
    exact ⟨hne, b, o, _, n, rfl, k _ _ e, hc, hd, by simpa using intsAre_of rv2⟩
 refine sorted_by (Out := OutR its rows) pl.isList (by rw [<- hl]; exact hz) (fun h2 s6 k => core_rows (rows_at _ k) h2 (by omega)) (fun h1 => ?_) fun out ho hs => ?_
 ·refine ⟨List.range its.length, .refl _, ?_, ?_⟩
  ·refine List.ext_getElem (by simp) fun i h1 h2 => ?_
   simp at h1
   simp [h1]
  ·rw [List.pairwise_map, List.pairwise_iff_getElem]
   intro i j hi hj hij
   simp at hi hj
   omega
 ·obtain ⟨idx, g1, g2, g3⟩ := ho
  obtain ⟨e, ho⟩ := sortedAll_at s.heap its out
  have hfr : H (s.heap.objs.size + 1) = none := I.hok.fresh (Nat.le_succ _)
  have g1' : idx.Perm (List.range ys.length) := by rw [hl]; exact g1
  refine ⟨.ref (s.heap.objs.size + 1), _, I.laid (t' := s.toks) (o := .lst (idx.map fun i => ys.getD i .non)) (fun b o q => sortedAll_old q) (Nat.le_succ _) ?_, rfl, q _ idx hfr g1' g3⟩
  refine ⟨by rw [List.length_map, g1'.length_eq, List.length_range]; exact hz, out.toList, e, ?_, by simpa using ho⟩
  rw [g2]
  have hlt : ∀ i ∈ idx, i < ys.length := fun i hi => by simpa using g1'.mem_iff.mp hi
  clear g1 g1' g2 g3 q
  induction idx with
  | nil => exact .nil
  | cons i idx ih =>
   refine .cons ?_ (ih fun j hj => hlt j (List.mem_cons_of_mem _ hj))
   have hi := hlt i List.mem_cons_self
   obtain ⟨u, e1, e2⟩ := rv.get (i := i) (x := ys[i]) (by simp [hi])
   have e3 : its.getD i Value.none = u := by simp [e1]
   have e4 : ys.getD i .non = ys[i] := by simp [hi]
   show RelV (ys.getD i .non) (its.getD i Value.none)
   rw [e3, e4]; exact e2
end
end L4
namespace L2
open PySem PySem.Spec PyProof.Rows
noncomputable def isT (ty T : String) : Bool := ty == T || (ty == "bool" && T == "int")
noncomputable def tyOk (ty T : String) : Bool := PySem.W.kitMeta T && decide ((fastBuiltinMro ty).map (fun l => l.contains (Value.type T)) = some (isT ty T))
theorem tyOk_all : (["NoneType", "bool", "int", "str", "tuple", "list", "dict"].all fun ty => ["int", "bool", "tuple", "list", "str"].all fun T => tyOk ty T) = true := by decide +kernel
theorem kit_t {K : PySem.W.Frag} {ty T : String} (h : tyOk ty T = true) : PySem.W.kitOne K (.type ty) (.type T) = some (isT ty T) := by
 unfold tyOk at h
 rw [Bool.and_eq_true] at h
 unfold PySem.W.kitOne
 split
 ·rename_i e
  have e' : ty = T := by have := eq_of_beq e; injection this
  subst e'
  simp [isT]
 ·show (if PySem.W.kitMeta T = true then PySem.W.subIn K (.type ty) (.type T) else none) = _
  rw [if_pos h.1]
  exact of_decide_eq_true h.2
noncomputable def TyN (K : PySem.W.Frag) (H : Hp) : V -> String -> Prop
 | .non, t => t = "NoneType"
 | .bl _, t => t = "bool"
 | .int _, t => t = "int"
 | .str _, t => t = "str"
 | .ref a, t => (t = "tuple" /\ ∃ xs, SqT K H a xs) \/ (t = "list" /\ ∃ xs, SqL K H a xs) \/ (t = "dict" /\ ∃ kvs, H a = some (.dK kvs))
 | _, _ => False
theorem call_inst {X : Cx} : CallR X (.builtin "isinstance") (fun xs H Q => ∃ x T ty, xs = [x, .ty T] /\ TyN X.K H x ty /\ tyOk ty T = true /\ Q (.bl (isT ty T)) H) := by
 intro pins s σ H xs us Q I r h
 obtain ⟨x, T, ty, rfl, hx, hT, q⟩ := h
 obtain ⟨u, c, rfl, ru, rc⟩ := vals2 r
 cases (show c = Value.type T from rc)
 have e : PySem.W.kitOne X.K (.type ty) (.type T) = some (isT ty T) := kit_t hT
 have fin : ∀ tk, EP X pins σ Q (.bool (isT ty T)) { s with toks := tk } := fun tk => ⟨.bl _, H, I.tok tk, rfl, q⟩
 cases x with
 | non => cases (show u = Value.none from ru); cases (show ty = _ from hx); exact PySem.W.kia_one PySem.W.kitx_none I.kIn True.intro e (fun z => nomatch z) fin
 | bl y => cases (show u = Value.bool y from ru); cases (show ty = _ from hx); exact PySem.W.kia_one PySem.W.kitx_bool I.kIn True.intro e (fun z => nomatch z) fin
 | int i => obtain ⟨t, rfl⟩ := (show ∃ t, u = Value.int i t from ru); cases (show ty = _ from hx); exact PySem.W.kia_one PySem.W.kitx_int I.kIn True.intro e (fun z => nomatch z) fin
 | str y => obtain ⟨t, rfl⟩ := (show ∃ t, u = Value.str y t from ru); cases (show ty = _ from hx); exact PySem.W.kia_one PySem.W.kitx_str I.kIn True.intro e (fun z => nomatch z) fin
 | ref a =>
  cases (show u = Value.ref a from ru)
  rcases hx with ⟨rfl, ys, hq⟩ | ⟨rfl, ys, hq⟩ | ⟨rfl, kvs, hq⟩
  ·obtain ⟨its, _, ⟨o, h1, h2, _⟩, _⟩ := I.tuple hq
   exact PySem.W.kia_one PySem.W.kitx_tuple I.kIn ⟨o, h1, h2⟩ e (fun z => nomatch z) fin
  ·obtain ⟨its, _, ⟨o, n, h1, h2, _⟩, _⟩ := I.list hq
   exact PySem.W.kia_one PySem.W.kitx_list I.kIn ⟨o, h1, h2⟩ e (fun z => nomatch z) fin
  ·obtain ⟨_, _, vs, _, p⟩ := (show ObjOk X.prog X.w H s.heap a (.dK kvs) from I.hok a _ hq)
   obtain ⟨o, es, ep, h1, h2, _⟩ := p
   exact PySem.W.kia_one PySem.W.kitx_dict I.kIn ⟨o, h1, h2.1⟩ e (fun z => nomatch z) fin
 | byt _ => exact hx.elim
 | flt _ => exact hx.elim
 | ty _ => exact hx.elim
end L2
namespace L3
open PySem PySem.Spec L2
open PyProof.Rows hiding St
section
variable {X : Cx} {K : PySem.W.Frag} {a b c e : Expr} {es : List Expr} {ta tb tc te : TDE} {tA : TDA} {pos p q : Pos}
theorem pd_len_ (hm : X.mg "len" = none) (ha : PDA X (e :: es) tA) (hg : Gl X "len" := by rfl) (he : starEach (e :: es) X.env = (false, eval e X.env) :: starEach es X.env := by rfl) (hpl : (backTo pos (starEach es X.env)).any (·.1) = false := by rfl) : PD X (.Call (.Name "len" p) (e :: es) [] pos) (dCB fLen tA) :=
 pd_of_callB (pe_callB (call_len_seq.or call_len_str) hg hm PySem.boot_len ha.pa (by decide) (by decide) he hpl) fLen.mo fLen.fits ha.mo
theorem pd_list_ (hm : X.mg "list" = none) (ha : PDA X (e :: es) tA) (hg : Gl X "list" := by rfl) (he : starEach (e :: es) X.env = (false, eval e X.env) :: starEach es X.env := by rfl) (hpl : (backTo pos (starEach es X.env)).any (·.1) = false := by rfl) : PD X (.Call (.Name "list" p) (e :: es) [] pos) (dCB fList tA) :=
 pd_of_callB (pe_callTy call_list_of hg hm PyProof.Rows.boot_list ha.pa (by decide) (by decide) he hpl) fList.mo fList.fits ha.mo
theorem pd_tuple_ (hm : X.mg "tuple" = none) (ha : PDA X (e :: es) tA) (hg : Gl X "tuple" := by rfl) (he : starEach (e :: es) X.env = (false, eval e X.env) :: starEach es X.env := by rfl) (hpl : (backTo pos (starEach es X.env)).any (·.1) = false := by rfl) : PD X (.Call (.Name "tuple" p) (e :: es) [] pos) (dCB fTuple tA) :=
 pd_of_callB (pe_callTy call_tuple_of hg hm PyProof.Rows.boot_tuple ha.pa (by decide) (by decide) he hpl) fTuple.mo fTuple.fits ha.mo
abbrev fMin : RDn := fII fun i j => .int (if j < i then j else i)
theorem pd_min_ (hm : X.mg "min" = none) (ha : PDA X (e :: es) tA) (hc : X.calm = true := by rfl) (hg : Gl X "min" := by rfl) (he : starEach (e :: es) X.env = (false, eval e X.env) :: starEach es X.env := by rfl) (hpl : (backTo pos (starEach es X.env)).any (·.1) = false := by rfl) : PD X (.Call (.Name "min" p) (e :: es) [] pos) (dCB fMin tA) :=
 pd_of_callB (pe_callB (call_min2 hc) hg hm boot_min ha.pa (by decide) (by decide) he hpl) fII.mo (fII.fits fun _ _ _ => by simp only [RepD]) ha.mo
noncomputable def rowD (r : List Int) : D := .tup (r.map D.int)
theorem rows_paired {H : Hp} : ∀ {rows : List (List Int)} {ys : List V}, RepDs K H (rows.map rowD) ys -> (∀ r ∈ rows, r ≠ []) -> Paired (fun v r => r ≠ [] /\ ∃ b, v = V.ref b /\ SqT K H b (r.map V.int)) ys rows
 | [], ys, h, _ => by simp only [List.map_nil, RepDs] at h; subst h; exact .nil
 | r :: rows, ys, h, hn => by
  rw [List.map_cons] at h
  simp only [RepDs, rowD, RepD] at h
  obtain ⟨x, ys', rfl, ⟨a, xs, rfl, g1, g2⟩, h3⟩ := h
  rw [g2.ints] at g1
  exact .cons ⟨hn r List.mem_cons_self, a, rfl, g1⟩ (rows_paired h3 fun r' hr => hn r' (List.mem_cons_of_mem _ hr))
theorem map_getD_perm {α : Type} {rows : List α} {d : α} {idx : List Nat} (h : idx.Perm (List.range rows.length)) : (idx.map fun i => rows.getD i d).Perm rows := by
 refine (h.map _).trans ?_
 have : (List.range rows.length).map (fun i => rows.getD i d) = rows := by
  refine List.ext_getElem (by simp) fun i h1 h2 => ?_
  simp [h2]
 rw [this]
theorem RepDs.perm {H : Hp} {rows : List (List Int)} {ys : List V} (h : RepDs K H (rows.map rowD) ys) : ∀ {idx : List Nat}, (∀ i ∈ idx, i < rows.length) -> RepDs K H ((idx.map fun i => rows.getD i []).map rowD) (idx.map fun i => ys.getD i .non)
 | [], _ => .nil
 | i :: idx, hi => by
  have h1 := hi i List.mem_cons_self
  obtain ⟨x, e1, e2⟩ := h.get (i := i) (d := rowD rows[i]) (by simp [h1])
  refine .cons ?_ (RepDs.perm h fun j hj => hi j (List.mem_cons_of_mem _ hj))
  have e3 : ys.getD i .non = x := by simp [e1]
  have e4 : rows.getD i [] = rows[i] := by simp [h1]
  show RepD K H (rowD (rows.getD i [])) (ys.getD i .non)
  rw [e3, e4]; exact e2
theorem pdi_range2_ {tg : Expr} (hm : X.mg "range" = none) (ha : PDA X [a, b] tA) (hg : Gl X "range" := by rfl) (hs : starEach [a, b] X.env = [(false, eval a X.env), (false, eval b X.env)] := by rfl) (hs2 : starEach [b] X.env = [(false, eval b X.env)] := by rfl) : PDI X tg (.Call (.Name "range" p) [a, b] [] pos) (jRng2 tA) := pdi_range2 (pi_range2 hg hm ha.pa hs hs2) ha.mo
noncomputable def tyD (d : D) (S : SS) : Option String := match d with
 | .non => some "NoneType"
 | .bl _ => some "bool"
 | .int _ => some "int"
 | .str _ => some "str"
 | .tup _ => some "tuple"
 | .rol _ => some "list"
 | .ref p => match S p with
  | some (.lst _) => some "list"
  | some (.dct _) => some "dict"
  | none => none
def dInst (T : String) (te : TDE) : TDE := fun δ S Q => te δ S fun x S1 => match tyD x S1 with
 | some ty => Q (.bl (isT ty T)) S1
 | none => False
theorem tyD.ok {H : Hp} {d : D} {v : V} {S : SS} {ty : String} (r : RepD K H d v) (p : RepH K H S) (h : tyD d S = some ty) : TyN K H v ty /\ ty ∈ ["NoneType", "bool", "int", "str", "tuple", "list", "dict"] := by
 cases d with
 | non => simp only [RepD] at r; subst r; cases h; exact ⟨rfl, by simp⟩
 | bl _ => simp only [RepD] at r; subst r; cases h; exact ⟨rfl, by simp⟩
 | int _ => simp only [RepD] at r; subst r; cases h; exact ⟨rfl, by simp⟩
 | str _ => simp only [RepD] at r; subst r; cases h; exact ⟨rfl, by simp⟩
 | tup ds =>
  simp only [RepD] at r
  obtain ⟨a, xs, rfl, g1, _⟩ := r
  cases h
  exact ⟨.inl ⟨rfl, xs, g1⟩, by simp⟩
 | rol ds =>
  simp only [RepD] at r
  obtain ⟨a, xs, rfl, g1, _⟩ := r
  cases h
  exact ⟨.inr (.inl ⟨rfl, xs, g1.sq⟩), by simp⟩
 | ref a =>
  simp only [RepD] at r
  subst r
  unfold tyD at h
  dsimp only at h
  split at h
  ·rename_i e
   cases h
   obtain ⟨xs, g1, _⟩ := p _ _ e
   exact ⟨.inr (.inl ⟨rfl, xs, SqL.of g1⟩), by simp⟩
  ·rename_i e
   cases h
   obtain ⟨xs, g1, _⟩ := p _ _ e
   exact ⟨.inr (.inr ⟨rfl, xs, g1⟩), by simp⟩
  ·cases h
theorem pd_inst {T : String} {x : Str} (hT : T ∈ ["int", "bool", "tuple", "list", "str"]) (hm : X.mg "isinstance" = none) (hm2 : X.mg x = none) (hv : bootBuiltins x = some (.type T)) (hg2 : Gl X x) (hn : x ≠ "__name__") (hd : (x == ("__debug__" : Str)) = false) (he : PD X e te) (hg : Gl X "isinstance" := by rfl)
  (h1 : starEach (e :: [.Name x q]) X.env = (false, eval e X.env) :: starEach [.Name x q] X.env := by rfl) (h2 : (backTo pos (starEach [.Name x q] X.env)).any (·.1) = false := by rfl) (h3 : starEach [.Name x q] X.env = (false, eval (.Name x q) X.env) :: starEach [] X.env := by rfl) :
  PD X (.Call (.Name "isinstance" p) [e, .Name x q] [] pos) (dInst T te) := by
 refine ⟨fun δ S Q Q' hq z => he.mo δ S _ _ (fun y S1 z => ?_) z, PE.imp (pe_callB call_inst hg hm boot_isinstance (pa_cons he.pe (pa_cons (pe_bltn (v := .ty T) hg2 hm2 hv rfl hn hd) pa_nil h3) h1) (by decide) (by decide) h1 h2) fun σ H Q hu => ?_⟩
 ·split at z
  ·exact hq _ _ z
  ·exact z
 ·obtain ⟨δ, S, r1, r2, z⟩ := hu
  refine upE.go he.mo r1 r2 z fun y S1 v H1 z1 q1 e1 p1 => ?_
  split at z1
  ·rename_i ty ht
   obtain ⟨g1, g2⟩ := tyD.ok q1 p1 ht
   refine ⟨v, T, ty, rfl, g1, ?_, z1 _ H1 (by simp only [RepD]) e1 p1⟩
   exact List.all_eq_true.mp (List.all_eq_true.mp tyOk_all ty g2) T hT
  ·exact z1.elim
theorem pd_isinst_bool (T : Bt X.mg) (he : PD X e te) (hg : Gl X "isinstance" := by rfl) (hg2 : Gl X "bool" := by rfl) (h1 : starEach (e :: [.Name "bool" q]) X.env = (false, eval e X.env) :: starEach [.Name "bool" q] X.env := by rfl) (h2 : (backTo pos (starEach [.Name "bool" q] X.env)).any (·.1) = false := by rfl) (h3 : starEach [.Name "bool" q] X.env = (false, eval (.Name "bool" q) X.env) :: starEach [] X.env := by rfl) :
  PD X (.Call (.Name "isinstance" p) [e, .Name "bool" q] [] pos) (dInst "bool" te) := pd_inst (by simp) T.isinstance T.bool PyProof.Rows.boot_bool hg2 (by decide) (by decide) he hg h1 h2 h3
theorem pd_isinst_int (T : Bt X.mg) (he : PD X e te) (hg : Gl X "isinstance" := by rfl) (hg2 : Gl X "int" := by rfl) (h1 : starEach (e :: [.Name "int" q]) X.env = (false, eval e X.env) :: starEach [.Name "int" q] X.env := by rfl) (h2 : (backTo pos (starEach [.Name "int" q] X.env)).any (·.1) = false := by rfl) (h3 : starEach [.Name "int" q] X.env = (false, eval (.Name "int" q) X.env) :: starEach [] X.env := by rfl) :
  PD X (.Call (.Name "isinstance" p) [e, .Name "int" q] [] pos) (dInst "int" te) := pd_inst (by simp) T.isinstance T.int PyProof.Rows.boot_int hg2 (by decide) (by decide) he hg h1 h2 h3
theorem pd_isinst_tuple (T : Bt X.mg) (he : PD X e te) (hg : Gl X "isinstance" := by rfl) (hg2 : Gl X "tuple" := by rfl) (h1 : starEach (e :: [.Name "tuple" q]) X.env = (false, eval e X.env) :: starEach [.Name "tuple" q] X.env := by rfl) (h2 : (backTo pos (starEach [.Name "tuple" q] X.env)).any (·.1) = false := by rfl) (h3 : starEach [.Name "tuple" q] X.env = (false, eval (.Name "tuple" q) X.env) :: starEach [] X.env := by rfl) :
  PD X (.Call (.Name "isinstance" p) [e, .Name "tuple" q] [] pos) (dInst "tuple" te) := pd_inst (by simp) T.isinstance T.tuple PyProof.Rows.boot_tuple hg2 (by decide) (by decide) he hg h1 h2 h3
theorem pd_m_append {o : Expr} {to : TDE} {apos cpos : Pos} (ho : PD X o to) (he : PD X e te)
  (hbase : attributeBase o "append" X.env (eval o X.env) = eval o X.env := by rfl)
  (hfew : ((backTo cpos (starEach [e] X.env)).all (fun x => !x.1) && (backToKw cpos (keywordEach [] X.env)).all (fun x => x.1.isSome)
   && decide ([e].length + ([] : List Keyword).length + (if ([] : List Keyword).isEmpty then 0 else 1) < 30)) = true := by rfl)
  (hline : (apos.endLine == cpos.line) = true := by rfl) (hs : starEach [e] X.env = (false, eval e X.env) :: starEach [] X.env := by rfl) (hplain : (backTo cpos (starEach [] X.env)).any (·.1) = false := by rfl) :
  PD X (.Call (.Attribute o "append" apos) [e] [] cpos) (dAppend to te) :=
 pd_append (o := o) (e := e) (pe_bm PySem.F.plainAttrs_list PySem.F.slot_list_append PySem.F.type_list_append mt_append ho.pe (pa_cons he.pe pa_nil hs) hbase hfew hline hs hplain) ho.mo he.mo
structure FD (P : Program) (w : World) (K : PySem.W.Frag) (mg : Str -> Option Value) (base : Heap) (x : Str) (k : Nat) (ps : List Str) (sp : SpD) : Prop where
 ex : ∃ (f : Addr) (fd : FuncData), FnOk P w K mg base CX0 k f fd ps (upP K sp) /\ mg x = some (.ref f) /\ PySem.W.keepIn K (.ref f) = true /\ Binds K fd ps []
 mo : MoP sp
theorem pd_callF {x : Str} {k : Nat} {ps : List Str} {sp : SpD} (F : FD X.prog X.w X.K X.mg X.base x k ps sp) (hr : Room k X.A) (ha : PDA X (e :: es) tA) (hg : Gl X x := by rfl) (hdb : (x == ("__debug__" : Str)) = false := by decide)
  (he : starEach (e :: es) X.env = (false, eval e X.env) :: starEach es X.env := by rfl) (hpl : (backTo pos (starEach es X.env)).any (·.1) = false := by rfl) : PD X (.Call (.Name x p) (e :: es) [] pos) (dCall sp tA) := by
 obtain ⟨⟨f, fd, h1, h2, h3, h4⟩, hm⟩ := F
 exact pd_call (E := E0) (pe_call h1 hr hg h2 h3 h4 .nil pass0 ha.pa hdb he hpl) hm ha.mo
end
end L3
namespace L3
open PySem PySem.Spec L2
open PyProof.Rows hiding St
section
variable {P : Program} {w : World} {K : PySem.W.Frag} {mg : Str -> Option Value} {base : Heap} {f : Addr} {fd : FuncData}
end
theorem fTuple_ref {S : SS} {p : Addr} {ds : List D} {Q : DK} (e : S p = some (.lst ds)) (h : Q (.tup ds) S) : fTuple [.ref p] S Q := by
 unfold fTuple; dsimp only; rw [e]; exact h
theorem fList_seq {S : SS} {d : D} {ds : List D} {Q : DK} (e : seqOf d S = some ds) (h : ∀ p, S p = none -> Q (.ref p) (ups S p (.lst ds))) : fList [d] S Q := by
 unfold fList; dsimp only; rw [e]; exact h
theorem fLen_seq {S : SS} {d : D} {ds : List D} {Q : DK} (e : seqOf d S = some ds) (h : Q (.int ds.length) S) : fLen [d] S Q := by
 unfold fLen; dsimp only; rw [e]; exact h
theorem tru_ref {S : SS} {p : Addr} {ds : List D} {Q : Bool -> SS -> Prop} (e : S p = some (.lst ds)) (h : Q (!ds.isEmpty) S) : tru (.ref p) S Q := by
 unfold tru; dsimp only; rw [e]; exact h
theorem fIx_ref {S : SS} {p : Addr} {ds : List D} {i : Int} {d : D} {Q : DK} (e : S p = some (.lst ds)) (e2 : L2.atI ds i = some d) (h : Q d S) : fIx (.ref p) (.int i) S Q := by
 unfold fIx; dsimp only; rw [e]; dsimp only; rw [e2]; exact h
theorem fIx_tup {S : SS} {ds : List D} {i : Int} {d : D} {Q : DK} (e2 : L2.atI ds i = some d) (h : Q d S) : fIx (.tup ds) (.int i) S Q := by
 unfold fIx; dsimp only; rw [e2]; exact h
theorem fIx_rol {S : SS} {ds : List D} {i : Int} {d : D} {Q : DK} (e2 : L2.atI ds i = some d) (h : Q d S) : fIx (.rol ds) (.int i) S Q := by
 unfold fIx; dsimp only; rw [e2]; exact h
end L3
namespace L3
open PySem PySem.Spec L2
open PyProof.Rows hiding St
inductive T where
 | non | bl (b : Bool) | int (i : Int) | str (x : Str) | tup (ts : List T) | lst (ts : List T) | dic
mutual
noncomputable def eqT : T -> T -> Bool
 | .non, .non => true
 | .bl a, .bl b => a == b
 | .bl a, .int b => (if a then 1 else 0) == b
 | .int a, .bl b => a == (if b then 1 else 0)
 | .int a, .int b => a == b
 | .str a, .str b => a == b
 | .tup a, .tup b => eqTs a b
 | .lst a, .lst b => eqTs a b
 | .dic, .dic => true
 | _, _ => false
noncomputable def eqTs : List T -> List T -> Bool
 | [], [] => true
 | a :: as, b :: bs => eqT a b && eqTs as bs
 | _, _ => false
end
mutual
noncomputable def dep : T -> Nat
 | .tup ts => 1 + deps ts
 | .lst ts => 1 + deps ts
 | .dic => cLine
 | _ => 0
noncomputable def deps : List T -> Nat
 | [] => 0
 | t :: ts => max (dep t) (deps ts)
end
mutual
noncomputable def Sn (S : SS) : T -> D -> Prop
 | .non, d => d = .non
 | .bl b, d => d = .bl b
 | .int i, d => d = .int i
 | .str x, d => d = .str x
 | .tup ts, d => ∃ ds, d = .tup ds /\ Sns S ts ds
 | .lst ts, d => ∃ ds, (d = .rol ds \/ ∃ a, d = .ref a /\ S a = some (.lst ds)) /\ Sns S ts ds
 | .dic, d => ∃ a kvs, d = .ref a /\ S a = some (.dct kvs)
noncomputable def Sns (S : SS) : List T -> List D -> Prop
 | [], ds => ds = []
 | t :: ts, ds => ∃ c cs, ds = c :: cs /\ Sn S t c /\ Sns S ts cs
end
mutual
theorem eqT_refl : ∀ t : T, eqT t t = true
 | .non => by simp [eqT]
 | .bl b => by simp [eqT]
 | .int i => by simp [eqT]
 | .str x => by simp [eqT]
 | .tup ts => by simp only [eqT]; exact eqTs_refl ts
 | .lst ts => by simp only [eqT]; exact eqTs_refl ts
 | .dic => by simp [eqT]
theorem eqTs_refl : ∀ ts : List T, eqTs ts ts = true
 | [] => by simp [eqTs]
 | t :: ts => by simp only [eqTs, eqT_refl t, eqTs_refl ts, Bool.and_self]
end
theorem eqTs_all : ∀ ts us : List T, eqTs ts us = ((List.range (min ts.length us.length)).all (fun j => eqT (ts.getD j .non) (us.getD j .non)) && ts.length == us.length)
 | [], [] => by simp [eqTs]
 | [], _ :: _ => by simp [eqTs]
 | _ :: _, [] => by simp [eqTs]
 | t :: ts, u :: us => by
  simp only [eqTs, eqTs_all ts us, List.length_cons]
  rw [show min (ts.length + 1) (us.length + 1) = min ts.length us.length + 1 by omega, List.range_succ_eq_map, List.all_cons, List.all_map]
  have : (ts.length + 1 == us.length + 1) = (ts.length == us.length) := by rw [Bool.eq_iff_iff]; simp
  rw [this, Bool.and_assoc]
  rfl
theorem Sns.length {S : SS} : ∀ {ts : List T} {ds : List D}, Sns S ts ds -> ts.length = ds.length
 | [], ds, h => by simp only [Sns] at h; subst h; rfl
 | t :: ts, ds, h => by
  simp only [Sns] at h
  obtain ⟨c, cs, rfl, _, h2⟩ := h
  simp [Sns.length h2]
section
variable {X : Cx} {pins : List (Addr × Obj)} {σ : St} {H : Hp} {s : Shared} {S : SS}
theorem inv_tl (I : Inv X pins σ H s) {a : Addr} {xs ys : List V} (h1 : SqT X.K H a xs) (h2 : SqL X.K H a ys) : False := by
 obtain ⟨_, _, ⟨o, e, c, _⟩, _⟩ := I.tuple h1
 obtain ⟨_, _, ⟨o', n, e', c', _⟩, _⟩ := I.list h2
 rw [e] at e'; cases e'
 rw [c] at c'
 injection c' with q
 exact absurd q (by decide)
theorem Sn.lstv (p : RepH X.K H S) {ts : List T} {d : D} {x : V} (h : Sn S (.lst ts) d) (r : RepD X.K H d x) : ∃ a xs ds, x = .ref a /\ SqL X.K H a xs /\ RepDs X.K H ds xs /\ Sns S ts ds := by
 simp only [Sn] at h
 obtain ⟨ds, h | ⟨a, h, e⟩, h2⟩ := h
 ·subst h
  simp only [RepD] at r
  obtain ⟨a, xs, rfl, g1, g2⟩ := r
  exact ⟨a, xs, ds, rfl, g1.sq, g2, h2⟩
 ·subst h
  simp only [RepD] at r
  obtain ⟨xs, g1, g2⟩ := p _ _ e
  exact ⟨a, xs, ds, r, SqL.of g1, g2, h2⟩
theorem Sn.tupv {ts : List T} {d : D} {x : V} (h : Sn S (.tup ts) d) (r : RepD X.K H d x) : ∃ a xs ds, x = .ref a /\ SqT X.K H a xs /\ RepDs X.K H ds xs /\ Sns S ts ds := by
 simp only [Sn] at h
 obtain ⟨ds, rfl, h2⟩ := h
 simp only [RepD] at r
 obtain ⟨a, xs, rfl, g1, g2⟩ := r
 exact ⟨a, xs, ds, rfl, g1, g2, h2⟩
theorem Sn.dicv (p : RepH X.K H S) {d : D} {x : V} (h : Sn S .dic d) (r : RepD X.K H d x) : ∃ a vs, x = .ref a /\ H a = some (.dK vs) := by
 simp only [Sn] at h
 obtain ⟨a, kvs, rfl, e⟩ := h
 simp only [RepD] at r
 obtain ⟨xs, g1, g2⟩ := p _ _ e
 exact ⟨a, xs, r, g1⟩
theorem inv_dic (I : Inv X pins σ H s) {a : Addr} {vs : List (Key × V)} (h : H a = some (.dK vs)) : ∃ o, s.heap.get? a = some o /\ o.cls = .type "dict" := by
 obtain ⟨_, _, _, _, o, _, _, e, c⟩ := (show ObjOk X.prog X.w H s.heap a (.dK vs) from I.hok a _ h)
 exact ⟨o, e, c.1.1⟩
theorem inv_td (I : Inv X pins σ H s) {a : Addr} {xs : List V} {vs : List (Key × V)} (h1 : SqT X.K H a xs) (h2 : H a = some (.dK vs)) : False := by
 obtain ⟨_, _, ⟨o, e, c, _⟩, _⟩ := I.tuple h1
 obtain ⟨o', e', c'⟩ := inv_dic I h2
 rw [e] at e'; cases e'
 rw [c] at c'
 injection c' with q
 exact absurd q (by decide)
theorem inv_ld (I : Inv X pins σ H s) {a : Addr} {xs : List V} {vs : List (Key × V)} (h1 : SqL X.K H a xs) (h2 : H a = some (.dK vs)) : False := by
 obtain ⟨_, _, ⟨o, n, e, c, _⟩, _⟩ := I.list h1
 obtain ⟨o', e', c'⟩ := inv_dic I h2
 rw [e] at e'; cases e'
 rw [c] at c'
 injection c' with q
 exact absurd q (by decide)
theorem Sn.flat {t : T} {d : D} {x : V} (h : Sn S t d) (r : RepD X.K H d x) : match t with
  | .non => x = .non
  | .bl b => x = .bl b
  | .int i => x = .int i
  | .str y => x = .str y
  | _ => True := by
 cases t <;> first
  | trivial
  | (simp only [Sn] at h; subst h; simpa only [RepD] using r)
mutual
theorem uniq_T (I : Inv X pins σ H s) (p : RepH X.K H S) : ∀ (t u : T) {d e : D} {x : V}, Sn S t d -> Sn S u e -> RepD X.K H d x -> RepD X.K H e x -> t = u
 | .tup ts, u, d, e, x, h1, h2, r1, r2 => by
  obtain ⟨a, xs, ds, rfl, g1, g2, g3⟩ := h1.tupv r1
  cases u with
  | dic => obtain ⟨_, _, q, g⟩ := h2.dicv p r2; cases q; exact (inv_td I g1 g).elim
  | tup us =>
   obtain ⟨a', xs', ds', q, k1, k2, k3⟩ := h2.tupv r2
   cases q
   have := I.tuple_inj g1 k1
   subst this
   rw [uniq_Ts I p ts us g3 k3 g2 k2]
  | lst us =>
   obtain ⟨a', xs', ds', q, k1, k2, k3⟩ := h2.lstv p r2
   cases q
   exact (inv_tl I g1 k1).elim
  | non => exact nomatch h2.flat r2
  | bl _ => exact nomatch h2.flat r2
  | int _ => exact nomatch h2.flat r2
  | str _ => exact nomatch h2.flat r2
 | .lst ts, u, d, e, x, h1, h2, r1, r2 => by
  obtain ⟨a, xs, ds, rfl, g1, g2, g3⟩ := h1.lstv p r1
  cases u with
  | dic => obtain ⟨_, _, q, g⟩ := h2.dicv p r2; cases q; exact (inv_ld I g1 g).elim
  | lst us =>
   obtain ⟨a', xs', ds', q, k1, k2, k3⟩ := h2.lstv p r2
   cases q
   have := I.list_inj g1 k1
   subst this
   rw [uniq_Ts I p ts us g3 k3 g2 k2]
  | tup us =>
   obtain ⟨a', xs', ds', q, k1, k2, k3⟩ := h2.tupv r2
   cases q
   exact (inv_tl I k1 g1).elim
  | non => exact nomatch h2.flat r2
  | bl _ => exact nomatch h2.flat r2
  | int _ => exact nomatch h2.flat r2
  | str _ => exact nomatch h2.flat r2
 | .non, u, d, e, x, h1, h2, r1, r2 => by
  have q := h1.flat r1
  subst q
  cases u with
  | dic => obtain ⟨_, _, q, g⟩ := h2.dicv p r2; cases q
  | non => rfl
  | tup us => obtain ⟨_, _, _, q, _⟩ := h2.tupv r2; cases q
  | lst us => obtain ⟨_, _, _, q, _⟩ := h2.lstv p r2; cases q
  | bl _ => exact nomatch h2.flat r2
  | int _ => exact nomatch h2.flat r2
  | str _ => exact nomatch h2.flat r2
 | .bl b, u, d, e, x, h1, h2, r1, r2 => by
  have q := h1.flat r1
  subst q
  cases u with
  | dic => obtain ⟨_, _, q, g⟩ := h2.dicv p r2; cases q
  | bl _ => have q := h2.flat r2; cases q; rfl
  | tup us => obtain ⟨_, _, _, q, _⟩ := h2.tupv r2; cases q
  | lst us => obtain ⟨_, _, _, q, _⟩ := h2.lstv p r2; cases q
  | non => exact nomatch h2.flat r2
  | int _ => exact nomatch h2.flat r2
  | str _ => exact nomatch h2.flat r2
 | .int b, u, d, e, x, h1, h2, r1, r2 => by
  have q := h1.flat r1
  subst q
  cases u with
  | dic => obtain ⟨_, _, q, g⟩ := h2.dicv p r2; cases q
  | int _ => have q := h2.flat r2; cases q; rfl
  | tup us => obtain ⟨_, _, _, q, _⟩ := h2.tupv r2; cases q
  | lst us => obtain ⟨_, _, _, q, _⟩ := h2.lstv p r2; cases q
  | non => exact nomatch h2.flat r2
  | bl _ => exact nomatch h2.flat r2
  | str _ => exact nomatch h2.flat r2
 | .str b, u, d, e, x, h1, h2, r1, r2 => by
  have q := h1.flat r1
  subst q
  cases u with
  | dic => obtain ⟨_, _, q, g⟩ := h2.dicv p r2; cases q
  | str _ => have q := h2.flat r2; cases q; rfl
  | tup us => obtain ⟨_, _, _, q, _⟩ := h2.tupv r2; cases q
  | lst us => obtain ⟨_, _, _, q, _⟩ := h2.lstv p r2; cases q
  | non => exact nomatch h2.flat r2
  | bl _ => exact nomatch h2.flat r2
  | int _ => exact nomatch h2.flat r2
 | .dic, u, d, e, x, h1, h2, r1, r2 => by
  obtain ⟨a, vs, rfl, g⟩ := h1.dicv p r1
  cases u with
  | dic => rfl
  | tup us => obtain ⟨_, _, _, q, g1, _⟩ := h2.tupv r2; cases q; exact (inv_td I g1 g).elim
  | lst us => obtain ⟨_, _, _, q, g1, _⟩ := h2.lstv p r2; cases q; exact (inv_ld I g1 g).elim
  | non => exact nomatch h2.flat r2
  | bl _ => exact nomatch h2.flat r2
  | int _ => exact nomatch h2.flat r2
  | str _ => exact nomatch h2.flat r2
theorem uniq_Ts (I : Inv X pins σ H s) (p : RepH X.K H S) : ∀ (ts us : List T) {ds es : List D} {xs : List V}, Sns S ts ds -> Sns S us es -> RepDs X.K H ds xs -> RepDs X.K H es xs -> ts = us
 | [], us, ds, es, xs, h1, h2, r1, r2 => by
  have e := h1.length.trans (r1.length.trans (r2.length.symm.trans h2.length.symm))
  cases us with
  | nil => rfl
  | cons _ _ => simp at e
 | t :: ts, [], ds, es, xs, h1, h2, r1, r2 => by
  have e := h1.length.trans (r1.length.trans (r2.length.symm.trans h2.length.symm))
  simp at e
 | t :: ts, u :: us, ds, es, xs, h1, h2, r1, r2 => by
  simp only [Sns] at h1 h2
  obtain ⟨c, cs, rfl, a1, a2⟩ := h1
  obtain ⟨c', cs', rfl, b1, b2⟩ := h2
  simp only [RepDs] at r1 r2
  obtain ⟨y, ys, rfl, g1, g2⟩ := r1
  obtain ⟨y', ys', q, k1, k2⟩ := r2
  cases q
  rw [uniq_T I p t u a1 b1 g1 k1, uniq_Ts I p ts us a2 b2 g2 k2]
end
theorem Sns.get {ts : List T} {ds : List D} (h : Sns S ts ds) : ∀ {j : Nat}, j < ts.length -> ∃ c, ds[j]? = some c /\ Sn S (ts.getD j .non) c := by
 induction ts generalizing ds with
 | nil => intro j hj; simp at hj
 | cons t ts ih =>
  intro j hj
  simp only [Sns] at h
  obtain ⟨c, cs, rfl, h1, h2⟩ := h
  cases j with
  | zero => exact ⟨c, rfl, h1⟩
  | succ j =>
   obtain ⟨c', e, h3⟩ := ih h2 (j := j) (by simpa using hj)
   exact ⟨c', by simpa using e, by simpa using h3⟩
theorem deps_get : ∀ {ts : List T} {j : Nat}, j < ts.length -> dep (ts.getD j .non) <= deps ts
 | [], j, h => by simp at h
 | t :: ts, 0, _ => by simp only [deps, List.getD_cons_zero]; omega
 | t :: ts, j + 1, h => by
  have := deps_get (ts := ts) (j := j) (by simpa using h)
  simp only [deps, List.getD_cons_succ]; omega
mutual
theorem eqAt_T (I : Inv X pins σ H s) (p : RepH X.K H S) : ∀ (t u : T) {A : Around} {d e : D} {x y : V} {a b : Value}, A.units + dep t < cLine -> A.units + dep u < cLine -> Sn S t d -> Sn S u e -> RepD X.K H d x -> RepD X.K H e y -> RelV x a -> RelV y b -> SeqAt.EqAt A s a b (eqT t u)
 | .non, u, A, d, e, x, y, a, b, hu, hu', h1, h2, r1, r2, v1, v2 => by
  have q := h1.flat r1; subst q; cases v1
  cases u with
  | dic => simp only [dep] at hu'; omega
  | non => have q := h2.flat r2; subst q; cases v2; simp only [eqT]; exact SeqAt.EqAt.same _
  | bl b => have q := h2.flat r2; subst q; cases v2; simp only [eqT]; exact SeqAt.EqAt.none_bool _
  | int i => have q := h2.flat r2; subst q; obtain ⟨t, rfl⟩ := v2; simp only [eqT]; exact SeqAt.EqAt.none_int _ _
  | str i => have q := h2.flat r2; subst q; obtain ⟨t, rfl⟩ := v2; simp only [eqT]; exact SeqAt.EqAt.none_str _ _
  | tup us => obtain ⟨a', xs', ds', rfl, k1, k2, k3⟩ := h2.tupv r2; cases v2; obtain ⟨_, _, pt, _⟩ := I.tuple k1; simp only [eqT]; exact SeqAt.EqAt.none_tuple pt (by omega)
  | lst us => obtain ⟨a', xs', ds', rfl, k1, k2, k3⟩ := h2.lstv p r2; cases v2; obtain ⟨_, _, pl, _⟩ := I.list k1; simp only [eqT]; exact SeqAt.EqAt.none_list pl.isList (by omega)
 | .bl c, u, A, d, e, x, y, a, b, hu, hu', h1, h2, r1, r2, v1, v2 => by
  have q := h1.flat r1; subst q; cases v1
  cases u with
  | dic => simp only [dep] at hu'; omega
  | non => have q := h2.flat r2; subst q; cases v2; simp only [eqT]; exact SeqAt.EqAt.bool_none _
  | bl b => have q := h2.flat r2; subst q; cases v2; simp only [eqT]; exact SeqAt.EqAt.bool_bool _ _
  | int i => have q := h2.flat r2; subst q; obtain ⟨t, rfl⟩ := v2; simp only [eqT]; exact SeqAt.EqAt.bool_int _ _ _
  | str i => have q := h2.flat r2; subst q; obtain ⟨t, rfl⟩ := v2; simp only [eqT]; exact SeqAt.EqAt.bool_str _ _ _
  | tup us => obtain ⟨a', xs', ds', rfl, k1, k2, k3⟩ := h2.tupv r2; cases v2; obtain ⟨_, _, pt, _⟩ := I.tuple k1; simp only [eqT]; exact SeqAt.EqAt.bool_tuple _ pt (by omega)
  | lst us => obtain ⟨a', xs', ds', rfl, k1, k2, k3⟩ := h2.lstv p r2; cases v2; obtain ⟨_, _, pl, _⟩ := I.list k1; simp only [eqT]; exact SeqAt.EqAt.bool_list _ pl.isList (by omega)
 | .int c, u, A, d, e, x, y, a, b, hu, hu', h1, h2, r1, r2, v1, v2 => by
  have q := h1.flat r1; subst q; obtain ⟨tk, rfl⟩ := v1
  cases u with
  | dic => simp only [dep] at hu'; omega
  | non => have q := h2.flat r2; subst q; cases v2; simp only [eqT]; exact SeqAt.EqAt.int_none _ _
  | bl b => have q := h2.flat r2; subst q; cases v2; simp only [eqT]; exact SeqAt.EqAt.int_bool _ _ _
  | int i => have q := h2.flat r2; subst q; obtain ⟨t, rfl⟩ := v2; simp only [eqT]; exact SeqAt.EqAt.int_int _ _ _ _
  | str i => have q := h2.flat r2; subst q; obtain ⟨t, rfl⟩ := v2; simp only [eqT]; exact SeqAt.EqAt.int_str _ _ _ _
  | tup us => obtain ⟨a', xs', ds', rfl, k1, k2, k3⟩ := h2.tupv r2; cases v2; obtain ⟨_, _, pt, _⟩ := I.tuple k1; simp only [eqT]; exact SeqAt.EqAt.int_tuple _ _ pt (by omega)
  | lst us => obtain ⟨a', xs', ds', rfl, k1, k2, k3⟩ := h2.lstv p r2; cases v2; obtain ⟨_, _, pl, _⟩ := I.list k1; simp only [eqT]; exact SeqAt.EqAt.int_list _ _ pl.isList (by omega)
 | .str c, u, A, d, e, x, y, a, b, hu, hu', h1, h2, r1, r2, v1, v2 => by
  have q := h1.flat r1; subst q; obtain ⟨tk, rfl⟩ := v1
  cases u with
  | dic => simp only [dep] at hu'; omega
  | non => have q := h2.flat r2; subst q; cases v2; simp only [eqT]; exact SeqAt.EqAt.str_none _ _
  | bl b => have q := h2.flat r2; subst q; cases v2; simp only [eqT]; exact SeqAt.EqAt.str_bool _ _ _
  | int i => have q := h2.flat r2; subst q; obtain ⟨t, rfl⟩ := v2; simp only [eqT]; exact SeqAt.EqAt.str_int _ _ _ _
  | str i => have q := h2.flat r2; subst q; obtain ⟨t, rfl⟩ := v2; simp only [eqT]; exact SeqAt.EqAt.str_str _ _ _ _
  | tup us => obtain ⟨a', xs', ds', rfl, k1, k2, k3⟩ := h2.tupv r2; cases v2; obtain ⟨_, _, pt, _⟩ := I.tuple k1; simp only [eqT]; exact SeqAt.EqAt.str_tuple _ _ pt (by omega)
  | lst us => obtain ⟨a', xs', ds', rfl, k1, k2, k3⟩ := h2.lstv p r2; cases v2; obtain ⟨_, _, pl, _⟩ := I.list k1; simp only [eqT]; exact SeqAt.EqAt.str_list _ _ pl.isList (by omega)
 | .tup ts, u, A, d, e, x, y, a, b, hu, hu', h1, h2, r1, r2, v1, v2 => by
  have hd1 := h1
  have hr1 := r1
  obtain ⟨l, xs, ds, rfl, g1, g2, g3⟩ := h1.tupv r1
  cases v1
  obtain ⟨its, w1, pt, _⟩ := I.tuple g1
  simp only [dep] at hu
  cases u with
  | dic => simp only [dep] at hu'; omega
  | non => have q := h2.flat r2; subst q; cases v2; simp only [eqT]; exact SeqAt.EqAt.tuple_none pt (by omega)
  | bl b => have q := h2.flat r2; subst q; cases v2; simp only [eqT]; exact SeqAt.EqAt.tuple_bool _ pt (by omega)
  | int i => have q := h2.flat r2; subst q; obtain ⟨t, rfl⟩ := v2; simp only [eqT]; exact SeqAt.EqAt.tuple_int _ _ pt (by omega)
  | str i => have q := h2.flat r2; subst q; obtain ⟨t, rfl⟩ := v2; simp only [eqT]; exact SeqAt.EqAt.tuple_str _ _ pt (by omega)
  | tup us =>
   by_cases hlb : (Value.ref l) = b
   ·subst hlb
    have hy : y = .ref l := RelV.inj v2 rfl
    subst hy
    have := uniq_T I p (.tup ts) (.tup us) hd1 h2 hr1 r2
    rw [<- this, eqT_refl]
    exact SeqAt.EqAt.same _
   ·obtain ⟨l', xs', ds', rfl, k1, k2, k3⟩ := h2.tupv r2
    cases v2
    obtain ⟨its', w2, pt', _⟩ := I.tuple k1
    simp only [dep] at hu'
    have e1 : its.toArray.size = ts.length := by rw [List.size_toArray, <- w1.length, <- g2.length, <- g3.length]
    have e2 : its'.toArray.size = us.length := by rw [List.size_toArray, <- w2.length, <- k2.length, <- k3.length]
    have q := SeqAt.RcAt.tuples (A := A) (e := fun j => eqT (ts.getD j .non) (us.getD j .non)) pt pt' (by omega) fun j h1 h2 => by
     have := eqAt_Ts I p ts us (A := A.in1) (by show A.units + 1 + deps ts < cLine; omega) (by show A.units + 1 + deps us < cLine; omega) g3 k3 g2 k2 w1 w2 j (by simpa using h1) (by simpa using h2)
     simpa using this
    rw [e1, e2] at q
    have q' := SeqAt.EqAt.of_refs (fun z => hlb (by rw [z])) q
    simp only [eqT, eqTs_all]
    exact q'
  | lst us => obtain ⟨l', xs', ds', rfl, k1, k2, k3⟩ := h2.lstv p r2; cases v2; obtain ⟨_, _, pl, _⟩ := I.list k1; simp only [eqT]; exact SeqAt.EqAt.tuple_list pt pl.isList (by omega)
 | .lst ts, u, A, d, e, x, y, a, b, hu, hu', h1, h2, r1, r2, v1, v2 => by
  have hd1 := h1
  have hr1 := r1
  obtain ⟨l, xs, ds, rfl, g1, g2, g3⟩ := h1.lstv p r1
  cases v1
  obtain ⟨its, w1, pl, _⟩ := I.list g1
  simp only [dep] at hu
  cases u with
  | dic => simp only [dep] at hu'; omega
  | non => have q := h2.flat r2; subst q; cases v2; simp only [eqT]; exact SeqAt.EqAt.list_none pl.isList (by omega)
  | bl b => have q := h2.flat r2; subst q; cases v2; simp only [eqT]; exact SeqAt.EqAt.list_bool _ pl.isList (by omega)
  | int i => have q := h2.flat r2; subst q; obtain ⟨t, rfl⟩ := v2; simp only [eqT]; exact SeqAt.EqAt.list_int _ _ pl.isList (by omega)
  | str i => have q := h2.flat r2; subst q; obtain ⟨t, rfl⟩ := v2; simp only [eqT]; exact SeqAt.EqAt.list_str _ _ pl.isList (by omega)
  | tup us => obtain ⟨l', xs', ds', rfl, k1, k2, k3⟩ := h2.tupv r2; cases v2; obtain ⟨_, _, pt, _⟩ := I.tuple k1; simp only [eqT]; exact SeqAt.EqAt.list_tuple pl.isList pt (by omega)
  | lst us =>
   by_cases hlb : (Value.ref l) = b
   ·subst hlb
    have hy : y = .ref l := RelV.inj v2 rfl
    subst hy
    have := uniq_T I p (.lst ts) (.lst us) hd1 h2 hr1 r2
    rw [<- this, eqT_refl]
    exact SeqAt.EqAt.same _
   ·obtain ⟨l', xs', ds', rfl, k1, k2, k3⟩ := h2.lstv p r2
    cases v2
    obtain ⟨its', w2, pl', _⟩ := I.list k1
    simp only [dep] at hu'
    have e1 : its.toArray.size = ts.length := by rw [List.size_toArray, <- w1.length, <- g2.length, <- g3.length]
    have e2 : its'.toArray.size = us.length := by rw [List.size_toArray, <- w2.length, <- k2.length, <- k3.length]
    have hne : l ≠ l' := fun z => hlb (by rw [z])
    by_cases hsz : ts.length = us.length
    ·have q := SeqAt.RcAt.lists (A := A) (e := fun j => eqT (ts.getD j .non) (us.getD j .non)) pl.isList pl'.isList (by rw [e1, e2]; exact hsz) (by omega) fun j h1 h2 => by
      have := eqAt_Ts I p ts us (A := A.in1) (by show A.units + 1 + deps ts < cLine; omega) (by show A.units + 1 + deps us < cLine; omega) g3 k3 g2 k2 w1 w2 j (by simpa using h1) (by simpa using h2)
      simpa using this
     rw [e1] at q
     have q' := SeqAt.EqAt.of_refs hne q
     simp only [eqT, eqTs_all]
     rw [<- hsz, Nat.min_self]
     simpa using q'
    ·have q := SeqAt.RcAt.lists_lengths (A := A) pl.isList pl'.isList (by rw [e1, e2]; simpa using hsz) (by omega)
     have q' := SeqAt.EqAt.of_refs hne q
     simp only [eqT, eqTs_all]
     have : (ts.length == us.length) = false := by simpa using hsz
     rw [this, Bool.and_false]
     exact q'
 | .dic, u, A, d, e, x, y, a, b, hu, hu', h1, h2, r1, r2, v1, v2 => by simp only [dep] at hu; omega
theorem eqAt_Ts (I : Inv X pins σ H s) (p : RepH X.K H S) : ∀ (ts us : List T) {A : Around} {ds es : List D} {xs ys : List V} {its its' : List Value}, A.units + deps ts < cLine -> A.units + deps us < cLine -> Sns S ts ds -> Sns S us es -> RepDs X.K H ds xs -> RepDs X.K H es ys -> Vals xs its -> Vals ys its' ->
  ∀ (j : Nat) (h1 : j < its.length) (h2 : j < its'.length), SeqAt.EqAt A s its[j] its'[j] (eqT (ts.getD j .non) (us.getD j .non))
 | [], us, A, ds, es, xs, ys, its, its', hu, hu', s1, s2, r1, r2, v1, v2, j, h1, h2 => by
  rw [<- v1.length, <- r1.length, <- s1.length] at h1
  simp at h1
 | t :: ts, [], A, ds, es, xs, ys, its, its', hu, hu', s1, s2, r1, r2, v1, v2, j, h1, h2 => by
  rw [<- v2.length, <- r2.length, <- s2.length] at h2
  simp at h2
 | t :: ts, u :: us, A, ds, es, xs, ys, its, its', hu, hu', s1, s2, r1, r2, v1, v2, j, h1, h2 => by
  simp only [Sns] at s1 s2
  obtain ⟨c, cs, rfl, a1, a2⟩ := s1
  obtain ⟨c', cs', rfl, b1, b2⟩ := s2
  simp only [RepDs] at r1 r2
  obtain ⟨y, ys, rfl, g1, g2⟩ := r1
  obtain ⟨y', ys', rfl, k1, k2⟩ := r2
  cases v1 with
  | cons m1 m2 =>
   cases v2 with
   | cons n1 n2 =>
    simp only [deps] at hu hu'
    cases j with
    | zero => simpa using eqAt_T I p t u (A := A) (by omega) (by omega) a1 b1 g1 k1 m1 n1
    | succ j => simpa using eqAt_Ts I p ts us (A := A) (by omega) (by omega) a2 b2 g2 k2 m2 n2 j (by simpa using h1) (by simpa using h2)
end
end
end L3
namespace L3
open PySem PySem.Spec L2
open PyProof.Rows hiding St
section
variable {X : Cx} {pins : List (Addr × Obj)} {σ : St} {H : Hp} {s : Shared} {S : SS}
theorem rcAt_T (I : Inv X pins σ H s) (p : RepH X.K H S) : ∀ (t u : T) {A : Around} {d e : D} {x y : V} {a b : Value}, A.units + dep t < cLine -> A.units + dep u < cLine -> Sn S t d -> Sn S u e -> RepD X.K H d x -> RepD X.K H e y -> RelV x a -> RelV y b -> SeqAt.RcAt A s a b (eqT t u)
 | .non, u, A, d, e, x, y, a, b, hu, hu', h1, h2, r1, r2, v1, v2 => by
  have q := h1.flat r1; subst q; cases v1
  cases u with
  | dic => simp only [dep] at hu'; omega
  | non => have q := h2.flat r2; subst q; cases v2; simp only [eqT]; exact SeqAt.RcAt.none_none
  | bl c2 => have q := h2.flat r2; subst q; cases v2; simp only [eqT]; exact SeqAt.RcAt.none_bool _
  | int c2 => have q := h2.flat r2; subst q; obtain ⟨tk2, rfl⟩ := v2; simp only [eqT]; exact SeqAt.RcAt.none_int _ _
  | str c2 => have q := h2.flat r2; subst q; obtain ⟨tk2, rfl⟩ := v2; simp only [eqT]; exact SeqAt.RcAt.none_str _ _
  | tup c2 => obtain ⟨l', xs', ds', rfl, k1, k2, k3⟩ := h2.tupv r2; cases v2; obtain ⟨its', w2, pt', _⟩ := I.tuple k1; simp only [dep] at hu'; simp only [eqT]; exact SeqAt.RcAt.none_tuple pt' (by omega)
  | lst c2 => obtain ⟨l', xs', ds', rfl, k1, k2, k3⟩ := h2.lstv p r2; cases v2; obtain ⟨its', w2, pl', _⟩ := I.list k1; simp only [dep] at hu'; simp only [eqT]; exact SeqAt.RcAt.none_list pl'.isList (by omega)
 | .bl c, u, A, d, e, x, y, a, b, hu, hu', h1, h2, r1, r2, v1, v2 => by
  have q := h1.flat r1; subst q; cases v1
  cases u with
  | dic => simp only [dep] at hu'; omega
  | non => have q := h2.flat r2; subst q; cases v2; simp only [eqT]; exact SeqAt.RcAt.bool_none _
  | bl c2 => have q := h2.flat r2; subst q; cases v2; simp only [eqT]; exact SeqAt.RcAt.bool_bool _ _
  | int c2 => have q := h2.flat r2; subst q; obtain ⟨tk2, rfl⟩ := v2; simp only [eqT]; exact SeqAt.RcAt.bool_int _ _ _
  | str c2 => have q := h2.flat r2; subst q; obtain ⟨tk2, rfl⟩ := v2; simp only [eqT]; exact SeqAt.RcAt.bool_str _ _ _
  | tup c2 => obtain ⟨l', xs', ds', rfl, k1, k2, k3⟩ := h2.tupv r2; cases v2; obtain ⟨its', w2, pt', _⟩ := I.tuple k1; simp only [dep] at hu'; simp only [eqT]; exact SeqAt.RcAt.bool_tuple _ pt' (by omega)
  | lst c2 => obtain ⟨l', xs', ds', rfl, k1, k2, k3⟩ := h2.lstv p r2; cases v2; obtain ⟨its', w2, pl', _⟩ := I.list k1; simp only [dep] at hu'; simp only [eqT]; exact SeqAt.RcAt.bool_list _ pl'.isList (by omega)
 | .int c, u, A, d, e, x, y, a, b, hu, hu', h1, h2, r1, r2, v1, v2 => by
  have q := h1.flat r1; subst q; obtain ⟨tk, rfl⟩ := v1
  cases u with
  | dic => simp only [dep] at hu'; omega
  | non => have q := h2.flat r2; subst q; cases v2; simp only [eqT]; exact SeqAt.RcAt.int_none _ _
  | bl c2 => have q := h2.flat r2; subst q; cases v2; simp only [eqT]; exact SeqAt.RcAt.int_bool _ _ _
  | int c2 => have q := h2.flat r2; subst q; obtain ⟨tk2, rfl⟩ := v2; simp only [eqT]; exact SeqAt.RcAt.int_int _ _ _ _
  | str c2 => have q := h2.flat r2; subst q; obtain ⟨tk2, rfl⟩ := v2; simp only [eqT]; exact SeqAt.RcAt.int_str _ _ _ _
  | tup c2 => obtain ⟨l', xs', ds', rfl, k1, k2, k3⟩ := h2.tupv r2; cases v2; obtain ⟨its', w2, pt', _⟩ := I.tuple k1; simp only [dep] at hu'; simp only [eqT]; exact SeqAt.RcAt.int_tuple _ _ pt' (by omega)
  | lst c2 => obtain ⟨l', xs', ds', rfl, k1, k2, k3⟩ := h2.lstv p r2; cases v2; obtain ⟨its', w2, pl', _⟩ := I.list k1; simp only [dep] at hu'; simp only [eqT]; exact SeqAt.RcAt.int_list _ _ pl'.isList (by omega)
 | .str c, u, A, d, e, x, y, a, b, hu, hu', h1, h2, r1, r2, v1, v2 => by
  have q := h1.flat r1; subst q; obtain ⟨tk, rfl⟩ := v1
  cases u with
  | dic => simp only [dep] at hu'; omega
  | non => have q := h2.flat r2; subst q; cases v2; simp only [eqT]; exact SeqAt.RcAt.str_none _ _
  | bl c2 => have q := h2.flat r2; subst q; cases v2; simp only [eqT]; exact SeqAt.RcAt.str_bool _ _ _
  | int c2 => have q := h2.flat r2; subst q; obtain ⟨tk2, rfl⟩ := v2; simp only [eqT]; exact SeqAt.RcAt.str_int _ _ _ _
  | str c2 => have q := h2.flat r2; subst q; obtain ⟨tk2, rfl⟩ := v2; simp only [eqT]; exact SeqAt.RcAt.str_str _ _ _ _
  | tup c2 => obtain ⟨l', xs', ds', rfl, k1, k2, k3⟩ := h2.tupv r2; cases v2; obtain ⟨its', w2, pt', _⟩ := I.tuple k1; simp only [dep] at hu'; simp only [eqT]; exact SeqAt.RcAt.str_tuple _ _ pt' (by omega)
  | lst c2 => obtain ⟨l', xs', ds', rfl, k1, k2, k3⟩ := h2.lstv p r2; cases v2; obtain ⟨its', w2, pl', _⟩ := I.list k1; simp only [dep] at hu'; simp only [eqT]; exact SeqAt.RcAt.str_list _ _ pl'.isList (by omega)
 | .tup c, u, A, d, e, x, y, a, b, hu, hu', h1, h2, r1, r2, v1, v2 => by
  obtain ⟨l, xs, ds, rfl, g1, g2, g3⟩ := h1.tupv r1; cases v1; obtain ⟨its, w1, pt, _⟩ := I.tuple g1; simp only [dep] at hu
  cases u with
  | dic => simp only [dep] at hu'; omega
  | non => have q := h2.flat r2; subst q; cases v2; simp only [eqT]; exact SeqAt.RcAt.tuple_none pt (by omega)
  | bl c2 => have q := h2.flat r2; subst q; cases v2; simp only [eqT]; exact SeqAt.RcAt.tuple_bool _ pt (by omega)
  | int c2 => have q := h2.flat r2; subst q; obtain ⟨tk2, rfl⟩ := v2; simp only [eqT]; exact SeqAt.RcAt.tuple_int _ _ pt (by omega)
  | str c2 => have q := h2.flat r2; subst q; obtain ⟨tk2, rfl⟩ := v2; simp only [eqT]; exact SeqAt.RcAt.tuple_str _ _ pt (by omega)
  | tup c2 =>
   obtain ⟨l', xs', ds', rfl, k1, k2, k3⟩ := h2.tupv r2; cases v2; obtain ⟨its', w2, pt', _⟩ := I.tuple k1; simp only [dep] at hu'
   have e1 : its.toArray.size = c.length := by rw [List.size_toArray, <- w1.length, <- g2.length, <- g3.length]
   have e2 : its'.toArray.size = c2.length := by rw [List.size_toArray, <- w2.length, <- k2.length, <- k3.length]
   have q := SeqAt.RcAt.tuples (A := A) (e := fun j => eqT (c.getD j .non) (c2.getD j .non)) pt pt' (by omega) fun j h1 h2 => by
    have := eqAt_Ts I p c c2 (A := A.in1) (by show A.units + 1 + deps c < cLine; omega) (by show A.units + 1 + deps c2 < cLine; omega) g3 k3 g2 k2 w1 w2 j (by simpa using h1) (by simpa using h2)
    simpa using this
   rw [e1, e2] at q
   simp only [eqT, eqTs_all]
   exact q
  | lst c2 => obtain ⟨l', xs', ds', rfl, k1, k2, k3⟩ := h2.lstv p r2; cases v2; obtain ⟨its', w2, pl', _⟩ := I.list k1; simp only [dep] at hu'; simp only [eqT]; exact SeqAt.RcAt.tuple_list pt pl'.isList (by omega)
 | .lst c, u, A, d, e, x, y, a, b, hu, hu', h1, h2, r1, r2, v1, v2 => by
  obtain ⟨l, xs, ds, rfl, g1, g2, g3⟩ := h1.lstv p r1; cases v1; obtain ⟨its, w1, pl, _⟩ := I.list g1; simp only [dep] at hu
  cases u with
  | dic => simp only [dep] at hu'; omega
  | non => have q := h2.flat r2; subst q; cases v2; simp only [eqT]; exact SeqAt.RcAt.list_none pl.isList (by omega)
  | bl c2 => have q := h2.flat r2; subst q; cases v2; simp only [eqT]; exact SeqAt.RcAt.list_bool _ pl.isList (by omega)
  | int c2 => have q := h2.flat r2; subst q; obtain ⟨tk2, rfl⟩ := v2; simp only [eqT]; exact SeqAt.RcAt.list_int _ _ pl.isList (by omega)
  | str c2 => have q := h2.flat r2; subst q; obtain ⟨tk2, rfl⟩ := v2; simp only [eqT]; exact SeqAt.RcAt.list_str _ _ pl.isList (by omega)
  | tup c2 => obtain ⟨l', xs', ds', rfl, k1, k2, k3⟩ := h2.tupv r2; cases v2; obtain ⟨its', w2, pt', _⟩ := I.tuple k1; simp only [dep] at hu'; simp only [eqT]; exact SeqAt.RcAt.list_tuple pl.isList pt' (by omega)
  | lst c2 =>
   obtain ⟨l', xs', ds', rfl, k1, k2, k3⟩ := h2.lstv p r2; cases v2; obtain ⟨its', w2, pl', _⟩ := I.list k1; simp only [dep] at hu'
   have e1 : its.toArray.size = c.length := by rw [List.size_toArray, <- w1.length, <- g2.length, <- g3.length]
   have e2 : its'.toArray.size = c2.length := by rw [List.size_toArray, <- w2.length, <- k2.length, <- k3.length]
   by_cases hsz : c.length = c2.length
   ·have q := SeqAt.RcAt.lists (A := A) (e := fun j => eqT (c.getD j .non) (c2.getD j .non)) pl.isList pl'.isList (by rw [e1, e2]; exact hsz) (by omega) fun j h1 h2 => by
     have := eqAt_Ts I p c c2 (A := A.in1) (by show A.units + 1 + deps c < cLine; omega) (by show A.units + 1 + deps c2 < cLine; omega) g3 k3 g2 k2 w1 w2 j (by simpa using h1) (by simpa using h2)
     simpa using this
    rw [e1] at q
    simp only [eqT, eqTs_all]
    rw [<- hsz, Nat.min_self]
    simpa using q
   ·have q := SeqAt.RcAt.lists_lengths (A := A) pl.isList pl'.isList (by rw [e1, e2]; simpa using hsz) (by omega)
    simp only [eqT, eqTs_all]
    have z : (c.length == c2.length) = false := by simpa using hsz
    rw [z, Bool.and_false]
    exact q
 | .dic, u, A, d, e, x, y, a, b, hu, hu', h1, h2, r1, r2, v1, v2 => by simp only [dep] at hu; omega
theorem rcNe_T (I : Inv X pins σ H s) (p : RepH X.K H S) : ∀ (t u : T) {A : Around} {d e : D} {x y : V} {a b : Value}, A.units + dep t < cLine -> A.units + dep u < cLine -> Sn S t d -> Sn S u e -> RepD X.K H d x -> RepD X.K H e y -> RelV x a -> RelV y b -> SeqAt.RcNeAt A s a b (!eqT t u)
 | .non, u, A, d, e, x, y, a, b, hu, hu', h1, h2, r1, r2, v1, v2 => by
  have q := h1.flat r1; subst q; cases v1
  cases u with
  | dic => simp only [dep] at hu'; omega
  | non => have q := h2.flat r2; subst q; cases v2; simp only [eqT, Bool.not_false, Bool.not_true]; exact SeqAt.RcNeAt.none_none
  | bl c2 => have q := h2.flat r2; subst q; cases v2; simp only [eqT, Bool.not_false, Bool.not_true]; exact SeqAt.RcNeAt.none_bool _
  | int c2 => have q := h2.flat r2; subst q; obtain ⟨tk2, rfl⟩ := v2; simp only [eqT, Bool.not_false, Bool.not_true]; exact SeqAt.RcNeAt.none_int _ _
  | str c2 => have q := h2.flat r2; subst q; obtain ⟨tk2, rfl⟩ := v2; simp only [eqT, Bool.not_false, Bool.not_true]; exact SeqAt.RcNeAt.none_str _ _
  | tup c2 => obtain ⟨l', xs', ds', rfl, k1, k2, k3⟩ := h2.tupv r2; cases v2; obtain ⟨its', w2, pt', _⟩ := I.tuple k1; simp only [dep] at hu'; simp only [eqT, Bool.not_false, Bool.not_true]; exact SeqAt.RcNeAt.none_tuple pt' (by omega)
  | lst c2 => obtain ⟨l', xs', ds', rfl, k1, k2, k3⟩ := h2.lstv p r2; cases v2; obtain ⟨its', w2, pl', _⟩ := I.list k1; simp only [dep] at hu'; simp only [eqT, Bool.not_false, Bool.not_true]; exact SeqAt.RcNeAt.none_list pl'.isList (by omega)
 | .bl c, u, A, d, e, x, y, a, b, hu, hu', h1, h2, r1, r2, v1, v2 => by
  have q := h1.flat r1; subst q; cases v1
  cases u with
  | dic => simp only [dep] at hu'; omega
  | non => have q := h2.flat r2; subst q; cases v2; simp only [eqT, Bool.not_false, Bool.not_true]; exact SeqAt.RcNeAt.bool_none _
  | bl c2 => have q := h2.flat r2; subst q; cases v2; simp only [eqT]; exact SeqAt.RcNeAt.bool_bool _ _
  | int c2 => have q := h2.flat r2; subst q; obtain ⟨tk2, rfl⟩ := v2; simp only [eqT]; exact SeqAt.RcNeAt.bool_int _ _ _
  | str c2 => have q := h2.flat r2; subst q; obtain ⟨tk2, rfl⟩ := v2; simp only [eqT, Bool.not_false, Bool.not_true]; exact SeqAt.RcNeAt.bool_str _ _ _
  | tup c2 => obtain ⟨l', xs', ds', rfl, k1, k2, k3⟩ := h2.tupv r2; cases v2; obtain ⟨its', w2, pt', _⟩ := I.tuple k1; simp only [dep] at hu'; simp only [eqT, Bool.not_false, Bool.not_true]; exact SeqAt.RcNeAt.bool_tuple _ pt' (by omega)
  | lst c2 => obtain ⟨l', xs', ds', rfl, k1, k2, k3⟩ := h2.lstv p r2; cases v2; obtain ⟨its', w2, pl', _⟩ := I.list k1; simp only [dep] at hu'; simp only [eqT, Bool.not_false, Bool.not_true]; exact SeqAt.RcNeAt.bool_list _ pl'.isList (by omega)
 | .int c, u, A, d, e, x, y, a, b, hu, hu', h1, h2, r1, r2, v1, v2 => by
  have q := h1.flat r1; subst q; obtain ⟨tk, rfl⟩ := v1
  cases u with
  | dic => simp only [dep] at hu'; omega
  | non => have q := h2.flat r2; subst q; cases v2; simp only [eqT, Bool.not_false, Bool.not_true]; exact SeqAt.RcNeAt.int_none _ _
  | bl c2 => have q := h2.flat r2; subst q; cases v2; simp only [eqT]; exact SeqAt.RcNeAt.int_bool _ _ _
  | int c2 => have q := h2.flat r2; subst q; obtain ⟨tk2, rfl⟩ := v2; simp only [eqT]; exact SeqAt.RcNeAt.int_int _ _ _ _
  | str c2 => have q := h2.flat r2; subst q; obtain ⟨tk2, rfl⟩ := v2; simp only [eqT, Bool.not_false, Bool.not_true]; exact SeqAt.RcNeAt.int_str _ _ _ _
  | tup c2 => obtain ⟨l', xs', ds', rfl, k1, k2, k3⟩ := h2.tupv r2; cases v2; obtain ⟨its', w2, pt', _⟩ := I.tuple k1; simp only [dep] at hu'; simp only [eqT, Bool.not_false, Bool.not_true]; exact SeqAt.RcNeAt.int_tuple _ _ pt' (by omega)
  | lst c2 => obtain ⟨l', xs', ds', rfl, k1, k2, k3⟩ := h2.lstv p r2; cases v2; obtain ⟨its', w2, pl', _⟩ := I.list k1; simp only [dep] at hu'; simp only [eqT, Bool.not_false, Bool.not_true]; exact SeqAt.RcNeAt.int_list _ _ pl'.isList (by omega)
 | .str c, u, A, d, e, x, y, a, b, hu, hu', h1, h2, r1, r2, v1, v2 => by
  have q := h1.flat r1; subst q; obtain ⟨tk, rfl⟩ := v1
  cases u with
  | dic => simp only [dep] at hu'; omega
  | non => have q := h2.flat r2; subst q; cases v2; simp only [eqT, Bool.not_false, Bool.not_true]; exact SeqAt.RcNeAt.str_none _ _
  | bl c2 => have q := h2.flat r2; subst q; cases v2; simp only [eqT, Bool.not_false, Bool.not_true]; exact SeqAt.RcNeAt.str_bool _ _ _
  | int c2 => have q := h2.flat r2; subst q; obtain ⟨tk2, rfl⟩ := v2; simp only [eqT, Bool.not_false, Bool.not_true]; exact SeqAt.RcNeAt.str_int _ _ _ _
  | str c2 => have q := h2.flat r2; subst q; obtain ⟨tk2, rfl⟩ := v2; simp only [eqT]; exact SeqAt.RcNeAt.str_str _ _ _ _
  | tup c2 => obtain ⟨l', xs', ds', rfl, k1, k2, k3⟩ := h2.tupv r2; cases v2; obtain ⟨its', w2, pt', _⟩ := I.tuple k1; simp only [dep] at hu'; simp only [eqT, Bool.not_false, Bool.not_true]; exact SeqAt.RcNeAt.str_tuple _ _ pt' (by omega)
  | lst c2 => obtain ⟨l', xs', ds', rfl, k1, k2, k3⟩ := h2.lstv p r2; cases v2; obtain ⟨its', w2, pl', _⟩ := I.list k1; simp only [dep] at hu'; simp only [eqT, Bool.not_false, Bool.not_true]; exact SeqAt.RcNeAt.str_list _ _ pl'.isList (by omega)
 | .tup c, u, A, d, e, x, y, a, b, hu, hu', h1, h2, r1, r2, v1, v2 => by
  obtain ⟨l, xs, ds, rfl, g1, g2, g3⟩ := h1.tupv r1; cases v1; obtain ⟨its, w1, pt, _⟩ := I.tuple g1; simp only [dep] at hu
  cases u with
  | dic => simp only [dep] at hu'; omega
  | non => have q := h2.flat r2; subst q; cases v2; simp only [eqT, Bool.not_false, Bool.not_true]; exact SeqAt.RcNeAt.tuple_none pt (by omega)
  | bl c2 => have q := h2.flat r2; subst q; cases v2; simp only [eqT, Bool.not_false, Bool.not_true]; exact SeqAt.RcNeAt.tuple_bool _ pt (by omega)
  | int c2 => have q := h2.flat r2; subst q; obtain ⟨tk2, rfl⟩ := v2; simp only [eqT, Bool.not_false, Bool.not_true]; exact SeqAt.RcNeAt.tuple_int _ _ pt (by omega)
  | str c2 => have q := h2.flat r2; subst q; obtain ⟨tk2, rfl⟩ := v2; simp only [eqT, Bool.not_false, Bool.not_true]; exact SeqAt.RcNeAt.tuple_str _ _ pt (by omega)
  | tup c2 =>
   obtain ⟨l', xs', ds', rfl, k1, k2, k3⟩ := h2.tupv r2; cases v2; obtain ⟨its', w2, pt', _⟩ := I.tuple k1; simp only [dep] at hu'
   have e1 : its.toArray.size = c.length := by rw [List.size_toArray, <- w1.length, <- g2.length, <- g3.length]
   have e2 : its'.toArray.size = c2.length := by rw [List.size_toArray, <- w2.length, <- k2.length, <- k3.length]
   have q := SeqAt.RcNeAt.tuples (A := A) (e := fun j => eqT (c.getD j .non) (c2.getD j .non)) pt pt' (by omega) fun j h1 h2 => by
    have := eqAt_Ts I p c c2 (A := A.in1) (by show A.units + 1 + deps c < cLine; omega) (by show A.units + 1 + deps c2 < cLine; omega) g3 k3 g2 k2 w1 w2 j (by simpa using h1) (by simpa using h2)
    simpa using this
   rw [e1, e2] at q
   simp only [eqT, eqTs_all]
   exact q
  | lst c2 => obtain ⟨l', xs', ds', rfl, k1, k2, k3⟩ := h2.lstv p r2; cases v2; obtain ⟨its', w2, pl', _⟩ := I.list k1; simp only [dep] at hu'; simp only [eqT, Bool.not_false, Bool.not_true]; exact SeqAt.RcNeAt.tuple_list pt pl'.isList (by omega)
 | .lst c, u, A, d, e, x, y, a, b, hu, hu', h1, h2, r1, r2, v1, v2 => by
  obtain ⟨l, xs, ds, rfl, g1, g2, g3⟩ := h1.lstv p r1; cases v1; obtain ⟨its, w1, pl, _⟩ := I.list g1; simp only [dep] at hu
  cases u with
  | dic => simp only [dep] at hu'; omega
  | non => have q := h2.flat r2; subst q; cases v2; simp only [eqT, Bool.not_false, Bool.not_true]; exact SeqAt.RcNeAt.list_none pl.isList (by omega)
  | bl c2 => have q := h2.flat r2; subst q; cases v2; simp only [eqT, Bool.not_false, Bool.not_true]; exact SeqAt.RcNeAt.list_bool _ pl.isList (by omega)
  | int c2 => have q := h2.flat r2; subst q; obtain ⟨tk2, rfl⟩ := v2; simp only [eqT, Bool.not_false, Bool.not_true]; exact SeqAt.RcNeAt.list_int _ _ pl.isList (by omega)
  | str c2 => have q := h2.flat r2; subst q; obtain ⟨tk2, rfl⟩ := v2; simp only [eqT, Bool.not_false, Bool.not_true]; exact SeqAt.RcNeAt.list_str _ _ pl.isList (by omega)
  | tup c2 => obtain ⟨l', xs', ds', rfl, k1, k2, k3⟩ := h2.tupv r2; cases v2; obtain ⟨its', w2, pt', _⟩ := I.tuple k1; simp only [dep] at hu'; simp only [eqT, Bool.not_false, Bool.not_true]; exact SeqAt.RcNeAt.list_tuple pl.isList pt' (by omega)
  | lst c2 =>
   obtain ⟨l', xs', ds', rfl, k1, k2, k3⟩ := h2.lstv p r2; cases v2; obtain ⟨its', w2, pl', _⟩ := I.list k1; simp only [dep] at hu'
   have e1 : its.toArray.size = c.length := by rw [List.size_toArray, <- w1.length, <- g2.length, <- g3.length]
   have e2 : its'.toArray.size = c2.length := by rw [List.size_toArray, <- w2.length, <- k2.length, <- k3.length]
   by_cases hsz : c.length = c2.length
   ·have q := SeqAt.RcNeAt.lists (A := A) (e := fun j => eqT (c.getD j .non) (c2.getD j .non)) pl.isList pl'.isList (by rw [e1, e2]; exact hsz) (by omega) fun j h1 h2 => by
     have := eqAt_Ts I p c c2 (A := A.in1) (by show A.units + 1 + deps c < cLine; omega) (by show A.units + 1 + deps c2 < cLine; omega) g3 k3 g2 k2 w1 w2 j (by simpa using h1) (by simpa using h2)
     simpa using this
    rw [e1] at q
    simp only [eqT, eqTs_all]
    rw [<- hsz, Nat.min_self]
    simpa using q
   ·have q := SeqAt.RcNeAt.lists_lengths (A := A) pl.isList pl'.isList (by rw [e1, e2]; simpa using hsz) (by omega)
    simp only [eqT, eqTs_all]
    have z : (c.length == c2.length) = false := by simpa using hsz
    rw [z, Bool.and_false]
    exact q
 | .dic, u, A, d, e, x, y, a, b, hu, hu', h1, h2, r1, r2, v1, v2 => by simp only [dep] at hu; omega
end
def rCmpT (K : PySem.W.Frag) (neg : Bool) : R2 := fun x y H Q => ∃ S d e t u, RepD K H d x /\ RepD K H e y /\ RepH K H S /\ Sn S t d /\ Sn S u e /\ dep t <= 60 /\ dep u <= 60 /\ Q (.bl (cond neg (!eqT t u) (eqT t u))) H
def fEq (neg : Bool) : RD2 := fun x y S Q => ∃ t u, Sn S t x /\ Sn S u y /\ dep t <= 60 /\ dep u <= 60 /\ Q (.bl (cond neg (!eqT t u) (eqT t u))) S
theorem fEq.mo {neg : Bool} : MoR (fEq neg) := fun _ _ _ _ _ hq ⟨t, u, a, b, c, d, h⟩ => ⟨t, u, a, b, c, d, hq _ _ h⟩
theorem fEq.fits {K : PySem.W.Frag} {neg : Bool} : Fits2 K (fEq neg) (rCmpT K neg) := fun x y d e H S Q h1 h2 h3 ⟨t, u, a, b, c, c', h⟩ => ⟨S, d, e, t, u, h1, h2, h3, a, b, c, c', h _ H (by simp only [RepD]) (.refl H) h3⟩
section
variable {X : Cx} {a b : Expr} {ta tb : TDE} {pos : Pos}
theorem op_eqT (hu : X.A.units + 64 < cLine) : OpR X (compareOp .Eq) (rCmpT X.K false) := by
 intro pins s σ H x y v u Q I rx ry h
 obtain ⟨S, d, e, t, u', a1, a2, a3, a4, a5, a6, a7, q⟩ := h
 exact rcAt_T I a3 t u' (A := X.A) (by omega) (by omega) a4 a5 a1 a2 rx ry X.prog X.w X.xe _ ⟨.bl _, H, I, rfl, q⟩
theorem op_neT (hu : X.A.units + 64 < cLine) : OpR X (compareOp .NotEq) (rCmpT X.K true) := by
 intro pins s σ H x y v u Q I rx ry h
 obtain ⟨S, d, e, t, u', a1, a2, a3, a4, a5, a6, a7, q⟩ := h
 exact rcNe_T I a3 t u' (A := X.A) (by omega) (by omega) a4 a5 a1 a2 rx ry X.prog X.w X.xe _ ⟨.bl _, H, I, rfl, q⟩
theorem pd_eqT {k : Nat} (hr : Room k X.A) (ha : PD X a ta) (hb : PD X b tb) : PD X (.Compare a [.Eq] [b] pos) (dOp (fEq false) ta tb) := pd_cmp (op_eqT hr.units) fEq.fits fEq.mo ha hb (nomark _)
theorem pdt_eqT {k : Nat} (hr : Room k X.A) (ha : PD X a ta) (hb : PD X b tb) : PDT X (.Compare a [.Eq] [b] pos) (dTest (dOp (fEq false) ta tb)) := pdt_cmp (op_eqT hr.units) fEq.fits fEq.mo ha hb (nomark _)
theorem pdt_neT {k : Nat} (hr : Room k X.A) (ha : PD X a ta) (hb : PD X b tb) : PDT X (.Compare a [.NotEq] [b] pos) (dTest (dOp (fEq true) ta tb)) := pdt_cmp (op_neT hr.units) fEq.fits fEq.mo ha hb (nomark _)
def rInT (K : PySem.W.Frag) (neg : Bool) : R2 := fun x y H Q => ∃ S d e u ts ds, RepD K H d x /\ RepD K H e y /\ RepH K H S /\ Sn S u d /\ seqOf e S = some ds /\ Sns S ts ds /\ dep u <= 60 /\ deps ts <= 60 /\ Q (.bl (cond neg (!(ts.any fun t => eqT t u)) (ts.any fun t => eqT t u))) H
def fIn (neg : Bool) : RD2 := fun x y S Q => ∃ u ts ds, Sn S u x /\ seqOf y S = some ds /\ Sns S ts ds /\ dep u <= 60 /\ deps ts <= 60 /\ Q (.bl (cond neg (!(ts.any fun t => eqT t u)) (ts.any fun t => eqT t u))) S
theorem fIn.mo {neg : Bool} : MoR (fIn neg) := fun _ _ _ _ _ hq ⟨u, ts, ds, a, b, c, d, e, h⟩ => ⟨u, ts, ds, a, b, c, d, e, hq _ _ h⟩
theorem fIn.fits {K : PySem.W.Frag} {neg : Bool} : Fits2 K (fIn neg) (rInT K neg) := fun x y d e H S Q h1 h2 h3 ⟨u, ts, ds, a, b, c, c', c2, h⟩ => ⟨S, d, e, u, ts, ds, h1, h2, h3, a, b, c, c', c2, h _ H (by simp only [RepD]) (.refl H) h3⟩
open Classical in
noncomputable def ansOf (its : List Value) (ts : List T) (u : T) (v : Value) : Bool := if h : ∃ j, its[j]? = some v then eqT (ts.getD (Classical.choose h) .non) u else false
theorem ans_ok {pins : List (Addr × Obj)} {σ : St} {H : Hp} {s : Shared} {S : SS} (I : Inv X pins σ H s) (p : RepH X.K H S) {ts : List T} {ds : List D} {xs : List V} {its : List Value} (h1 : Sns S ts ds) (h2 : RepDs X.K H ds xs) (h3 : Vals xs its) (u : T) {j : Nat} {v : Value} (hj : its[j]? = some v) :
  ansOf its ts u v = eqT (ts.getD j .non) u := by
 have h : ∃ j, its[j]? = some v := ⟨j, hj⟩
 unfold ansOf
 rw [dif_pos h]
 have hc := Classical.choose_spec h
 have lt : ∀ i, its[i]? = some v -> i < ts.length := fun i hi => by
  rw [h1.length, h2.length, h3.length]
  exact (List.getElem?_eq_some_iff.mp hi).1
 obtain ⟨c1, e1, s1⟩ := h1.get (lt _ hc)
 obtain ⟨c2, e2, s2⟩ := h1.get (lt _ hj)
 obtain ⟨x1, f1, r1⟩ := h2.get e1
 obtain ⟨x2, f2, r2⟩ := h2.get e2
 obtain ⟨v1, g1, q1⟩ := h3.get f1
 obtain ⟨v2, g2, q2⟩ := h3.get f2
 rw [hc] at g1; cases g1
 rw [hj] at g2; cases g2
 have hx := q1.inj q2
 subst hx
 rw [uniq_T I p _ _ s1 s2 r1 r2]
theorem any_ans {pins : List (Addr × Obj)} {σ : St} {H : Hp} {s : Shared} {S : SS} (I : Inv X pins σ H s) (p : RepH X.K H S) {ts : List T} {ds : List D} {xs : List V} {its : List Value} (h1 : Sns S ts ds) (h2 : RepDs X.K H ds xs) (h3 : Vals xs its) (u : T) : its.any (ansOf its ts u) = ts.any fun t => eqT t u := by
 have hl : ts.length = its.length := by rw [h1.length, h2.length, h3.length]
 rw [Bool.eq_iff_iff, List.any_eq_true, List.any_eq_true]
 constructor
 ·rintro ⟨v, hv, h⟩
  obtain ⟨j, hj, rfl⟩ := List.mem_iff_getElem.mp hv
  rw [ans_ok I p h1 h2 h3 u (j := j) (by simp [hj])] at h
  have hj' : j < ts.length := by omega
  exact ⟨ts[j], List.getElem_mem hj', by simpa [hj'] using h⟩
 ·rintro ⟨t, ht, h⟩
  obtain ⟨j, hj, rfl⟩ := List.mem_iff_getElem.mp ht
  have hj' : j < its.length := by omega
  exact ⟨its[j], List.getElem_mem hj', by rw [ans_ok I p h1 h2 h3 u (j := j) (by simp [hj'])]; simpa [hj] using h⟩
theorem ans_at {pins : List (Addr × Obj)} {σ : St} {H : Hp} {s : Shared} {S : SS} (I : Inv X pins σ H s) (p : RepH X.K H S) {ts : List T} {ds : List D} {xs : List V} {its : List Value} (h1 : Sns S ts ds) (h2 : RepDs X.K H ds xs) (h3 : Vals xs its) {u : T} {d : D} {x : V} {v : Value} (hu : Sn S u d) (hd : RepD X.K H d x) (hx : RelV x v) {A : Around} (b1 : A.units + deps ts < cLine) (b2 : A.units + dep u < cLine) {y : Value} (hy : y ∈ its) :
  SeqAt.EqAt A s y v (ansOf its ts u y) := by
 obtain ⟨j, hj, rfl⟩ := List.mem_iff_getElem.mp hy
 have hjt : j < ts.length := by rw [h1.length, h2.length, h3.length]; exact hj
 rw [ans_ok I p h1 h2 h3 u (j := j) (by simp [hj])]
 obtain ⟨c1, e1, s1⟩ := h1.get hjt
 obtain ⟨x1, f1, r1⟩ := h2.get e1
 obtain ⟨v1, g1, q1⟩ := h3.get f1
 have : its[j] = v1 := by
  have := List.getElem?_eq_some_iff.mp g1
  exact this.2
 rw [this]
 have := deps_get hjt
 exact eqAt_T I p _ u (A := A) (by omega) b2 s1 hu r1 hd q1 hx
theorem op_inT (hu : X.A.units + 64 < cLine) : OpR X (compareOp .In) (rInT X.K false) := by
 intro pins s σ H x y v w Q I rx ry h
 obtain ⟨S, d, e, u, ts, ds, a1, a2, a3, a4, a5, a6, a7, a8, q⟩ := h
 obtain ⟨l, xs, rfl, g1, g2⟩ := seqOf.sq a2 a3 a5
 cases ry
 rcases g1 with g1 | g1
 ·obtain ⟨its, w1, pl, _⟩ := I.list g1
  refine SeqAt.in_listAt (ansOf its ts u) pl.isList (fun y hy => ans_at I a3 a6 g2 w1 a4 a1 rx (A := X.A.in1) (by show X.A.units + 1 + _ < _; omega) (by show X.A.units + 1 + _ < _; omega) (by simpa using hy)) ⟨.bl _, H, I, rfl, ?_⟩
  rw [show its.toArray.any (ansOf its ts u) = its.any (ansOf its ts u) by simp, any_ans I a3 a6 g2 w1]
  exact q
 ·obtain ⟨its, w1, pt, _⟩ := I.tuple g1
  refine SeqAt.in_tupleAt (ansOf its ts u) pt (fun y hy => ans_at I a3 a6 g2 w1 a4 a1 rx (A := X.A.in1) (by show X.A.units + 1 + _ < _; omega) (by show X.A.units + 1 + _ < _; omega) (by simpa using hy)) ⟨.bl _, H, I, rfl, ?_⟩
  rw [show its.toArray.any (ansOf its ts u) = its.any (ansOf its ts u) by simp, any_ans I a3 a6 g2 w1]
  exact q
theorem pd_in {k : Nat} (hr : Room k X.A) (ha : PD X a ta) (hb : PD X b tb) (hm : behindInMarks .In b = false := by rfl) : PD X (.Compare a [.In] [b] pos) (dOp (fIn false) ta tb) := pd_cmp (op_inT hr.units) fIn.fits fIn.mo ha hb hm
end
end L3
namespace L2
open PySem PySem.Spec PyProof.Rows
section
variable {κ : Type} [DecidableEq κ]
end
section
variable {P : Program} {w : World} {H : Hp} {h : Heap} {a : Addr}
end
section
variable {X : Cx} {pins : List (Addr × Obj)} {σ : St} {H : Hp} {s : Shared} {a : Addr} {y v : V} {u r : Value} {o : Option V} {A : Around} {E : Value -> Shared -> Prop}
end
section
variable {X : Cx} {pins : List (Addr × Obj)} {σ : St} {H : Hp} {s : Shared} {a : Addr} {kvs : List (Key × V)} {k : Key} {u : Value} {A : Around} {E : Value -> Shared -> Prop}
end
section
variable {X : Cx} {o i e value : Expr} {pos pos' tpos : Pos} {td ty tv : TE}
end
section
variable {X : Cx} {pos : Pos}
end
section
variable {X : Cx} {pins : List (Addr × Obj)} {σ : St} {H : Hp} {s : Shared} {a : Addr} {y d : V} {u r : Value} {o : Option V} {A : Around} {E : Value -> Shared -> Prop}
end
section
variable {X : Cx} {o e f : Expr} {apos cpos : Pos} {td ty tx : TE}
end
section
variable {X : Cx} {pins : List (Addr × Obj)} {σ : St} {H : Hp} {s : Shared} {a : Addr} {kvs : List (Key × V)} {A : Around} {E : Value -> Shared -> Prop}
end
section
variable {X : Cx} {pins : List (Addr × Obj)} {σ : St} {H : Hp} {s : Shared} {a : Addr} {y : V} {u : Value} {A : Around} {E : Value -> Shared -> Prop}
end
end L2
namespace L3
open PySem PySem.Spec L2
open PyProof.Rows hiding St
section
variable {K : PySem.W.Frag} {H : Hp}
end
section
variable {X : Cx} {K : PySem.W.Frag} {o i e f v : Expr} {td ty tx tv : TDE} {pos pos' apos cpos : Pos}
end
end L3
namespace L3
open PySem L2
section
variable {S S' : SS}
mutual
theorem Sn.sx (h : Sx S S') : ∀ (t : T) {d : D}, Sn S t d -> Sn S' t d
 | .non, d, q => by simpa only [Sn] using q
 | .bl b, d, q => by simpa only [Sn] using q
 | .int i, d, q => by simpa only [Sn] using q
 | .str x, d, q => by simpa only [Sn] using q
 | .tup ts, d, q => by
  simp only [Sn] at q ⊢
  obtain ⟨ds, q1, q2⟩ := q
  exact ⟨ds, q1, Sns.sx h ts q2⟩
 | .lst ts, d, q => by
  simp only [Sn] at q ⊢
  obtain ⟨ds, q1, q2⟩ := q
  refine ⟨ds, ?_, Sns.sx h ts q2⟩
  rcases q1 with q1 | ⟨a, q1, q3⟩
  ·exact .inl q1
  ·exact .inr ⟨a, q1, h _ _ q3⟩
 | .dic, d, q => by
  simp only [Sn] at q ⊢
  obtain ⟨a, kvs, q1, q2⟩ := q
  exact ⟨a, kvs, q1, h _ _ q2⟩
theorem Sns.sx (h : Sx S S') : ∀ (ts : List T) {ds : List D}, Sns S ts ds -> Sns S' ts ds
 | [], ds, q => by simpa only [Sns] using q
 | t :: ts, ds, q => by
  simp only [Sns] at q ⊢
  obtain ⟨c, cs, q1, q2, q3⟩ := q
  exact ⟨c, cs, q1, Sn.sx h t q2, Sns.sx h ts q3⟩
end
theorem Sns.nil : Sns S [] [] := by simp only [Sns]
theorem Sns.cons {t : T} {ts : List T} {d : D} {ds : List D} (h : Sn S t d) (h' : Sns S ts ds) : Sns S (t :: ts) (d :: ds) := by
 simp only [Sns]; exact ⟨d, ds, rfl, h, h'⟩
theorem Sns.append : ∀ {ts us : List T} {ds es : List D}, Sns S ts ds -> Sns S us es -> Sns S (ts ++ us) (ds ++ es)
 | [], us, ds, es, h, h' => by simp only [Sns] at h; subst h; simpa using h'
 | t :: ts, us, ds, es, h, h' => by
  simp only [Sns] at h
  obtain ⟨c, cs, rfl, h1, h2⟩ := h
  exact Sns.cons h1 (Sns.append h2 h')
theorem Sns.getE : ∀ {ts : List T} {ds : List D} {i : Nat} {t : T}, Sns S ts ds -> ts[i]? = some t -> ∃ d, ds[i]? = some d /\ Sn S t d
 | [], _, i, t, _, e => by simp at e
 | u :: ts, ds, i, t, h, e => by
  simp only [Sns] at h
  obtain ⟨c, cs, rfl, h1, h2⟩ := h
  cases i with
  | zero => simp at e; subst e; exact ⟨c, rfl, h1⟩
  | succ i =>
   obtain ⟨y, e1, e2⟩ := Sns.getE (i := i) h2 (by simpa using e)
   exact ⟨y, by simpa using e1, e2⟩
theorem Sns.getD' : ∀ {ts : List T} {ds : List D} {i : Nat} {d : D}, Sns S ts ds -> ds[i]? = some d -> ∃ t, ts[i]? = some t /\ Sn S t d
 | [], ds, i, t, h, e => by simp only [Sns] at h; subst h; simp at e
 | u :: ts, ds, i, t, h, e => by
  simp only [Sns] at h
  obtain ⟨c, cs, rfl, h1, h2⟩ := h
  cases i with
  | zero => simp at e; subst e; exact ⟨u, rfl, h1⟩
  | succ i =>
   obtain ⟨y, e1, e2⟩ := Sns.getD' (i := i) h2 (by simpa using e)
   exact ⟨y, by simpa using e1, e2⟩
theorem Sns.len {ts : List T} {ds : List D} (h : Sns S ts ds) : ds.length = ts.length := (L3.Sns.length h).symm
theorem Sns.at {ts : List T} {ds : List D} {i : Int} {t : T} (h : Sns S ts ds) (e : L2.atI ts i = some t) : ∃ d, L2.atI ds i = some d /\ Sn S t d := by
 unfold L2.atI at e ⊢
 rw [h.len]
 cases q : L2.ixN ts.length i with
 | none => rw [q] at e; cases e
 | some j =>
  rw [q] at e
  exact h.getE e
theorem Sns.take' : ∀ {ts : List T} {ds : List D} (n : Nat), Sns S ts ds -> Sns S (ts.take n) (ds.take n)
 | ts, ds, 0, h => by simpa using Sns.nil
 | [], ds, n + 1, h => by simp only [Sns] at h; subst h; simpa using Sns.nil
 | t :: ts, ds, n + 1, h => by
  simp only [Sns] at h
  obtain ⟨c, cs, rfl, h1, h2⟩ := h
  exact Sns.cons h1 (Sns.take' n h2)
theorem Sns.empty {ts : List T} {ds : List D} (h : Sns S ts ds) : ds.isEmpty = ts.isEmpty := by
 have := h.len
 cases ds <;> cases ts <;> simp_all
theorem Sns.bls : ∀ {bs : List Bool} {ds : List D}, Sns S (bs.map T.bl) ds -> ds = bs.map D.bl
 | [], ds, h => by simpa only [List.map_nil, Sns] using h
 | b :: bs, ds, h => by
  rw [List.map_cons] at h
  simp only [Sns, Sn] at h
  obtain ⟨c, cs, rfl, rfl, h3⟩ := h
  rw [Sns.bls h3]; rfl
end
end L3
namespace L5
open PySem L2 L3
noncomputable def hid (S : SS) (Z : Addr -> Prop) : SS := open Classical in fun a => if Z a then none else S a
section
variable {S S' S1 : SS} {Z Z' : Addr -> Prop} {a p : Addr}
theorem hid_of (h : ¬ Z a) : hid S Z a = S a := if_neg h
theorem hid_z (h : Z a) : hid S Z a = none := if_pos h
theorem hid_some {o : O} (h : hid S Z a = some o) : ¬ Z a /\ S a = some o := by
 by_cases z : Z a
 ·rw [hid_z z] at h; cases h
 ·rw [hid_of z] at h; exact ⟨z, h⟩
theorem hid_sx (S : SS) (Z : Addr -> Prop) : Sx (hid S Z) S := fun _ _ h => (hid_some h).2
theorem hid_mono (h : Sx S S') : Sx (hid S Z) (hid S' Z) := fun b o q => by
 obtain ⟨q1, q2⟩ := hid_some q
 rw [hid_of q1]; exact h _ _ q2
theorem hid_le (h : ∀ a, Z' a -> Z a) : Sx (hid S Z) (hid S Z') := fun b o q => by
 obtain ⟨q1, q2⟩ := hid_some q
 rw [hid_of (fun z => q1 (h _ z))]; exact q2
theorem hid_new (h : Sx S S') (hp : S p = none) : Sx (hid S Z) (hid S' fun a => Z a \/ a = p) := fun b o q => by
 obtain ⟨q1, q2⟩ := hid_some q
 rw [hid_of]
 ·exact h _ _ q2
 ·rintro (z | z)
  ·exact q1 z
  ·subst z; rw [hp] at q2; cases q2
theorem hid_ups {o : O} (h : Z p) : hid (ups S p o) Z = hid S Z := by
 funext b
 by_cases z : Z b
 ·rw [hid_z z, hid_z z]
 ·rw [hid_of z, hid_of z, ups_ne (fun e => z (by rw [e]; exact h))]
end
inductive C where
 | lst (ts : List T) | dct (kvs : List (Key × T))
noncomputable def KVs (S : SS) : List (Key × T) -> List (Key × D) -> Prop
 | [], l => l = []
 | (k, t) :: r, l => ∃ d m, l = (k, d) :: m /\ Sn S t d /\ KVs S r m
theorem KVs.sx {S S' : SS} (h : Sx S S') : ∀ {a : List (Key × T)} {b : List (Key × D)}, KVs S a b -> KVs S' a b
 | [], _, q => q
 | (k, t) :: r, _, q => by
  obtain ⟨d, m, q1, q2, q3⟩ := q
  exact ⟨d, m, q1, Sn.sx h t q2, KVs.sx h q3⟩
noncomputable def RepC (S : SS) : C -> O -> Prop
 | .lst ts, .lst ds => Sns S ts ds
 | .dct a, .dct b => KVs S a b
 | _, _ => False
theorem RepC.sx {S S' : SS} (h : Sx S S') : ∀ {c : C} {o : O}, RepC S c o -> RepC S' c o
 | .lst ts, .lst ds, q => Sns.sx h ts q
 | .dct a, .dct b, q => KVs.sx h q
inductive W where
 | im (t : T) | own (c : C)
abbrev Ev := List (Option W)
structure ER (S : SS) (Z : Addr -> Prop) (δ : StD) (ρ : Ev) : Prop where
 zd : ∀ a, Z a -> S a ≠ none
 im : ∀ (i : Nat) t, ρ[i]? = some (some (.im t)) -> ∃ d, δ[i]? = some (some d) /\ Sn (hid S Z) t d
 ow : ∀ (i : Nat) c, ρ[i]? = some (some (.own c)) -> ∃ p o, δ[i]? = some (some (.ref p)) /\ S p = some o /\ RepC (hid S Z) c o /\ Z p
def Vw (S : SS) (Z : Addr -> Prop) (y : T) (d : D) : Prop := Sn (hid S Z) y d \/ ∃ ts p ds, y = .lst ts /\ d = .ref p /\ S p = some (.lst ds) /\ Sns (hid S Z) ts ds /\ Z p
abbrev Rk := SS -> SS -> (Addr -> Prop) -> T -> D -> Prop
def RkR : Rk := fun _ S' Z y d => Vw S' Z y d
def RkV : Rk := fun _ S' Z y d => Sn (hid S' Z) y d
def RkF : Rk := fun S S' Z y d => Sn (hid S' Z) y d /\ ∀ ts, y = .lst ts -> ∃ p ds, d = .ref p /\ S p = none /\ S' p = some (.lst ds) /\ Sns (hid S' fun a => Z a \/ a = p) ts ds
class Cl (R : Rk) : Prop where
 cl : ∀ {S S1 S' : SS} {Z : Addr -> Prop} {y : T} {d : D}, Sx S S1 -> R S1 S' Z y d -> R S S' Z y d
 of : ∀ {S S' : SS} {Z : Addr -> Prop} {y : T} {d : D}, (∀ ts, y ≠ .lst ts) -> Sn (hid S' Z) y d -> R S S' Z y d
instance : Cl RkR := ⟨fun _ h => h, fun _ h => .inl h⟩
instance : Cl RkV := ⟨fun _ h => h, fun _ h => h⟩
instance : Cl RkF := ⟨fun s h => ⟨h.1, fun ts e => by
 obtain ⟨p, ds, h1, h2, h3⟩ := h.2 ts e
 exact ⟨p, ds, h1, s.none h2, h3⟩⟩, fun n h => ⟨h, fun ts e => absurd e (n ts)⟩⟩
section
variable {S S' S1 : SS} {Z Z' : Addr -> Prop} {δ : StD} {ρ : Ev} {y : T} {d : D}
theorem ER.grow (h : ER S Z δ ρ) (s : Sx S S') : ER S' Z δ ρ :=
 ⟨fun a z q => h.zd a z (s.none q), fun i t e => by
  obtain ⟨d, h1, h2⟩ := h.im i t e
  exact ⟨d, h1, Sn.sx (hid_mono s) t h2⟩, fun i ts e => by
  obtain ⟨p, ds, h1, h2, h3, h4⟩ := h.ow i ts e
  exact ⟨p, ds, h1, s _ _ h2, RepC.sx (hid_mono s) h3, h4⟩⟩
theorem Vw.grow (h : Vw S Z y d) (s : Sx S S') : Vw S' Z y d := by
 rcases h with h | ⟨ts, p, ds, h1, h2, h3, h4, h5⟩
 ·exact .inl (Sn.sx (hid_mono s) y h)
 ·exact .inr ⟨ts, p, ds, h1, h2, s _ _ h3, Sns.sx (hid_mono s) ts h4, h5⟩
theorem Vw.sn (h : Vw S Z y d) : Sn S y d := by
 rcases h with h | ⟨ts, p, ds, rfl, rfl, h3, h4, _⟩
 ·exact Sn.sx (hid_sx S Z) y h
 ·simp only [Sn]
  exact ⟨ds, .inr ⟨p, rfl, h3⟩, Sns.sx (hid_sx S Z) ts h4⟩
theorem Vw.non (h : Vw S Z .non d) : d = .non := by
 rcases h with h | ⟨_, _, _, h, _⟩
 ·simpa only [Sn] using h
 ·cases h
theorem Vw.bl {b : Bool} (h : Vw S Z (.bl b) d) : d = .bl b := by
 rcases h with h | ⟨_, _, _, h, _⟩
 ·simpa only [Sn] using h
 ·cases h
theorem Vw.int {b : Int} (h : Vw S Z (.int b) d) : d = .int b := by
 rcases h with h | ⟨_, _, _, h, _⟩
 ·simpa only [Sn] using h
 ·cases h
theorem Vw.str {b : Str} (h : Vw S Z (.str b) d) : d = .str b := by
 rcases h with h | ⟨_, _, _, h, _⟩
 ·simpa only [Sn] using h
 ·cases h
theorem Vw.tup {ts : List T} (h : Vw S Z (.tup ts) d) : ∃ ds, d = .tup ds /\ Sns (hid S Z) ts ds := by
 rcases h with h | ⟨_, _, _, h, _⟩
 ·simpa only [Sn] using h
 ·cases h
theorem Vw.lst {ts : List T} (h : Vw S Z (.lst ts) d) : ∃ ds, (d = .rol ds \/ ∃ a, d = .ref a /\ S a = some (.lst ds)) /\ Sns (hid S Z) ts ds := by
 rcases h with h | ⟨us, p, ds, h1, h2, h3, h4, _⟩
 ·simp only [Sn] at h
  obtain ⟨ds, h1, h2⟩ := h
  refine ⟨ds, ?_, h2⟩
  rcases h1 with h1 | ⟨a, h1, h3⟩
  ·exact .inl h1
  ·exact .inr ⟨a, h1, (hid_some h3).2⟩
 ·cases h1
  exact ⟨ds, .inr ⟨p, h2, h3⟩, h4⟩
noncomputable def seqT : T -> Option (List T)
 | .tup ts => some ts
 | .lst ts => some ts
 | _ => none
@[simp] theorem seqT_tup (ts : List T) : seqT (.tup ts) = some ts := rfl
@[simp] theorem seqT_lst (ts : List T) : seqT (.lst ts) = some ts := rfl
theorem Vw.seq {ts : List T} (h : Vw S Z y d) (e : seqT y = some ts) : ∃ ds, seqOf d S = some ds /\ Sns (hid S Z) ts ds := by
 cases y with
 | tup us => cases e; obtain ⟨ds, rfl, h2⟩ := h.tup; exact ⟨ds, rfl, h2⟩
 | lst us =>
  cases e
  obtain ⟨ds, h1 | ⟨a, rfl, h1⟩, h2⟩ := h.lst
  ·subst h1; exact ⟨ds, rfl, h2⟩
  ·exact ⟨ds, by unfold seqOf; dsimp only; rw [h1], h2⟩
 | non => cases e
 | bl _ => cases e
 | int _ => cases e
 | str _ => cases e
 | dic => cases e
theorem Vw.dic (h : Vw S Z .dic d) : ∃ a kvs, d = .ref a /\ S a = some (.dct kvs) := by
 rcases h with h | ⟨_, _, _, h, _⟩
 ·simp only [Sn] at h
  obtain ⟨a, kvs, h1, h2⟩ := h
  exact ⟨a, kvs, h1, (hid_some h2).2⟩
 ·cases h
theorem sn_non : Sn S .non .non := by simp only [Sn]
theorem sn_bl {b : Bool} : Sn S (.bl b) (.bl b) := by simp only [Sn]
theorem sn_int {i : Int} : Sn S (.int i) (.int i) := by simp only [Sn]
theorem sn_str {x : Str} : Sn S (.str x) (.str x) := by simp only [Sn]
theorem sn_tup {ts : List T} {ds : List D} (h : Sns S ts ds) : Sn S (.tup ts) (.tup ds) := by simp only [Sn]; exact ⟨ds, rfl, h⟩
theorem rkF_new {ts : List T} {ds : List D} {p : Addr} (hz : ∀ a, Z a -> S a ≠ none) (hp : S p = none) (h : Sns (hid S Z) ts ds) : RkF S (ups S p (.lst ds)) Z (.lst ts) (.ref p) := by
 have nz : ¬ Z p := fun z => hz p z hp
 have s : Sx S (ups S p (.lst ds)) := .new hp _
 refine ⟨?_, fun us e => ?_⟩
 ·simp only [Sn]
  exact ⟨ds, .inr ⟨p, rfl, by rw [hid_of nz, ups_same]⟩, Sns.sx (hid_mono s) ts h⟩
 ·cases e
  exact ⟨p, ds, rfl, hp, ups_same, Sns.sx (hid_new s hp) ts h⟩
end
def OkX (R : Rk) (f : Ev -> Option T) (t : TDE) : Prop := ∀ S Z δ ρ y Q, ER S Z δ ρ -> f ρ = some y -> (∀ d S', Sx S S' -> R S S' Z y d -> Q d S') -> t δ S Q
abbrev OkE := OkX RkV
abbrev OkR := OkX RkR
abbrev OkF := OkX RkF
theorem OkX.imp {R R' : Rk} {f : Ev -> Option T} {t : TDE} (h : OkX R f t) (i : ∀ S S' Z y d, R S S' Z y d -> R' S S' Z y d) : OkX R' f t := fun S Z δ ρ y Q hE e hq => h S Z δ ρ y Q hE e fun d S' s r => hq d S' s (i _ _ _ _ _ r)
theorem OkX.er {f : Ev -> Option T} {t : TDE} (h : OkE f t) : OkR f t := h.imp fun _ _ _ _ _ r => .inl r
theorem OkX.fe {f : Ev -> Option T} {t : TDE} (h : OkF f t) : OkE f t := h.imp fun _ _ _ _ _ r => r.1
theorem OkX.fr {f : Ev -> Option T} {t : TDE} (h : OkF f t) : OkR f t := h.fe.er
@[simp] noncomputable def varS (i : Nat) : Ev -> Option T := fun ρ => match ρ[i]? with
 | some (some (.im t)) => some t
 | _ => none
@[simp] noncomputable def vrS (i : Nat) : Ev -> Option T := fun ρ => match ρ[i]? with
 | some (some (.im t)) => some t
 | some (some (.own (.lst ts))) => some (.lst ts)
 | _ => none
@[simp] noncomputable def cS (t : T) : Ev -> Option T := fun _ => some t
theorem ok_var (i : Nat) : OkE (varS i) (dVar i) := fun S Z δ ρ y Q hE e hq => by
 unfold varS at e
 split at e
 ·rename_i t h
  cases e
  obtain ⟨d, h1, h2⟩ := hE.im i _ h
  unfold dVar; rw [h1]
  exact hq d S (.refl S) h2
 ·cases e
theorem ok_vr (i : Nat) : OkR (vrS i) (dVar i) := fun S Z δ ρ y Q hE e hq => by
 unfold vrS at e
 split at e
 ·rename_i t h
  cases e
  obtain ⟨d, h1, h2⟩ := hE.im i _ h
  unfold dVar; rw [h1]
  exact hq d S (.refl S) (.inl h2)
 ·rename_i ts h
  cases e
  obtain ⟨p, o, h1, h2, h3, h4⟩ := hE.ow i _ h
  unfold dVar; rw [h1]
  cases o with
  | dct _ => exact h3.elim
  | lst ds => exact hq _ S (.refl S) (.inr ⟨ts, p, ds, rfl, rfl, h2, h3, h4⟩)
 ·cases e
theorem ok_int (i : Int) : OkF (cS (.int i)) (dC (.int i)) := fun S Z δ ρ y Q hE e hq => by cases e; exact hq _ S (.refl S) (Cl.of (fun _ => nofun) sn_int)
theorem ok_bl (i : Bool) : OkF (cS (.bl i)) (dC (.bl i)) := fun S Z δ ρ y Q hE e hq => by cases e; exact hq _ S (.refl S) (Cl.of (fun _ => nofun) sn_bl)
@[simp] noncomputable def opS (f : T -> T -> Option T) (fa fb : Ev -> Option T) : Ev -> Option T := fun ρ => (fa ρ).bind fun x => (fb ρ).bind fun y => f x y
def Good2 (R : Rk) (f : T -> T -> Option T) (g : RD2) : Prop := ∀ S Z x y z d e Q, (∀ a, Z a -> S a ≠ none) -> Vw S Z x d -> Vw S Z y e -> f x y = some z -> (∀ c S', Sx S S' -> R S S' Z z c -> Q c S') -> g d e S Q
theorem ok_op {R : Rk} [Cl R] {f : T -> T -> Option T} {g : RD2} {fa fb : Ev -> Option T} {ta tb : TDE} (hg : Good2 R f g) (ha : OkR fa ta) (hb : OkR fb tb) : OkX R (opS f fa fb) (dOp g ta tb) := fun S Z δ ρ y Q hE e hq => by
 unfold opS at e
 obtain ⟨x, e1, e⟩ := Option.bind_eq_some_iff.mp e
 obtain ⟨z, e2, e⟩ := Option.bind_eq_some_iff.mp e
 refine ha S Z δ ρ x _ hE e1 fun d S1 s1 r1 => ?_
 refine hb S1 Z δ ρ z _ (hE.grow s1) e2 fun d2 S2 s2 r2 => ?_
 exact hg S2 Z x z y d d2 Q ((hE.grow (s1.trans s2)).zd) (Vw.grow r1 s2) r2 e fun c S' s r => hq c S' ((s1.trans s2).trans s) (Cl.cl (s1.trans s2) r)
@[simp] noncomputable def i2 (g : Int -> Int -> T) : T -> T -> Option T
 | .int i, .int j => some (g i j)
 | _, _ => none
instance {i j : Int} : Decidable (CMul i j) := by unfold CMul; infer_instance
instance {i j : Int} : Decidable (CDiv i j) := by unfold CDiv; infer_instance
instance {i j : Int} : Decidable (CPow i j) := by unfold CPow; infer_instance
@[simp] noncomputable def i2c (C : Int -> Int -> Prop) [∀ i j, Decidable (C i j)] (g : Int -> Int -> T) : T -> T -> Option T
 | .int i, .int j => if C i j then some (g i j) else none
 | _, _ => none
theorem good_i2 {g : Int -> Int -> T} {g' : Int -> Int -> D} (h : ∀ i j S, Sn S (g i j) (g' i j)) (n : ∀ i j ts, g i j ≠ .lst ts) : Good2 RkF (i2 g) (fI0 g') := fun S Z x y z d e Q hz hx hy ef hq => by
 unfold i2 at ef
 split at ef
 ·cases ef
  cases hx.int; cases hy.int
  exact hq _ S (.refl S) (Cl.of (n _ _) (h _ _ _))
 ·cases ef
theorem good_i2c {C : Int -> Int -> Prop} [∀ i j, Decidable (C i j)] {g : Int -> Int -> T} {g' : Int -> Int -> D} (h : ∀ i j S, Sn S (g i j) (g' i j)) (n : ∀ i j ts, g i j ≠ .lst ts) : Good2 RkF (i2c C g) (fI C g') := fun S Z x y z d e Q hz hx hy ef hq => by
 unfold i2c at ef
 split at ef
 ·split at ef
  ·rename_i hh
   cases ef
   cases hx.int; cases hy.int
   exact ⟨hh, hq _ S (.refl S) (Cl.of (n _ _) (h _ _ _))⟩
  ·cases ef
 ·cases ef
@[simp] noncomputable def subT : T -> T -> Option T := i2 fun i j => .int (i - j)
@[simp] noncomputable def modT : T -> T -> Option T := i2c (fun _ j => 0 < j) fun i j => .int (i % j)
@[simp] noncomputable def fdivT : T -> T -> Option T := i2c CDiv fun i j => .int (i / j)
@[simp] noncomputable def powT : T -> T -> Option T := i2c CPow fun i j => .int (i ^ j.toNat)
@[simp] noncomputable def leI : T -> T -> Option T := i2 fun i j => .bl (decide (i <= j))
@[simp] noncomputable def geI : T -> T -> Option T := i2 fun i j => .bl (decide (j <= i))
section
variable {fa fb : Ev -> Option T} {ta tb : TDE}
theorem ok_sub (ha : OkR fa ta) (hb : OkR fb tb) : OkF (opS subT fa fb) (dOp (fI0 fun i j => .int (i - j)) ta tb) := ok_op (good_i2 (fun _ _ _ => sn_int) fun _ _ _ => nofun) ha hb
theorem ok_mod (ha : OkR fa ta) (hb : OkR fb tb) : OkF (opS modT fa fb) (dOp (fI (fun _ j => 0 < j) fun i j => .int (i % j)) ta tb) := ok_op (good_i2c (fun _ _ _ => sn_int) fun _ _ _ => nofun) ha hb
theorem ok_fdiv (ha : OkR fa ta) (hb : OkR fb tb) : OkF (opS fdivT fa fb) (dOp (fI CDiv fun i j => .int (i / j)) ta tb) := ok_op (good_i2c (fun _ _ _ => sn_int) fun _ _ _ => nofun) ha hb
theorem ok_pow (ha : OkR fa ta) (hb : OkR fb tb) : OkF (opS powT fa fb) (dOp (fI CPow fun i j => .int (i ^ j.toNat)) ta tb) := ok_op (good_i2c (fun _ _ _ => sn_int) fun _ _ _ => nofun) ha hb
theorem ok_le (ha : OkR fa ta) (hb : OkR fb tb) : OkF (opS leI fa fb) (dOp fLe ta tb) := ok_op (good_i2 (fun _ _ _ => sn_bl) fun _ _ _ => nofun) ha hb
theorem ok_ge (ha : OkR fa ta) (hb : OkR fb tb) : OkF (opS geI fa fb) (dOp fGe ta tb) := ok_op (good_i2 (fun _ _ _ => sn_bl) fun _ _ _ => nofun) ha hb
end
noncomputable def eqS (neg : Bool) : T -> T -> Option T := fun x y => if dep x <= 60 /\ dep y <= 60 then some (.bl (cond neg (!eqT x y) (eqT x y))) else none
noncomputable def inS (neg : Bool) : T -> T -> Option T := fun x y => match seqT y with
 | some ts => if dep x <= 60 /\ deps ts <= 60 then some (.bl (cond neg (!(ts.any fun t => eqT t x)) (ts.any fun t => eqT t x))) else none
 | none => none
theorem good_eq {neg : Bool} : Good2 RkF (eqS neg) (fEq neg) := fun S Z x y z d e Q hz hx hy ef hq => by
 unfold eqS at ef
 split at ef
 ·rename_i h
  cases ef
  exact ⟨x, y, hx.sn, hy.sn, h.1, h.2, hq _ S (.refl S) (Cl.of (fun _ => nofun) sn_bl)⟩
 ·cases ef
theorem good_in {neg : Bool} : Good2 RkF (inS neg) (fIn neg) := fun S Z x y z d e Q hz hx hy ef hq => by
 unfold inS at ef
 split at ef
 ·rename_i ts ht
  split at ef
  ·rename_i h
   cases ef
   obtain ⟨ds, h1, h2⟩ := hy.seq ht
   exact ⟨x, ts, ds, hx.sn, h1, Sns.sx (hid_sx S Z) ts h2, h.1, h.2, hq _ S (.refl S) (Cl.of (fun _ => nofun) sn_bl)⟩
  ·cases ef
 ·cases ef
@[simp] noncomputable def ixS : T -> T -> Option T := fun x y => match seqT x, y with
 | some ts, .int i => L2.atI ts i
 | _, _ => none
theorem good_ix : Good2 RkV ixS fIx := fun S Z x y z d e Q hz hx hy ef hq => by
 unfold ixS at ef
 split at ef
 ·rename_i ts i ht
  cases hy.int
  obtain ⟨ds, h1, h2⟩ := hx.seq ht
  obtain ⟨c, h3, h4⟩ := h2.at ef
  unfold seqOf at h1
  split at h1
  ·cases h1; exact fIx_tup h3 (hq c S (.refl S) h4)
  ·cases h1; exact fIx_rol h3 (hq c S (.refl S) h4)
  ·split at h1
   ·rename_i q
    cases h1
    exact fIx_ref q h3 (hq c S (.refl S) h4)
   ·cases h1
  ·cases h1
 ·cases ef
@[simp] noncomputable def addS : T -> T -> Option T
 | .int i, .int j => some (.int (i + j))
 | .str i, .str j => if i.length + j.length <= sizeLine then some (.str (i ++ j)) else none
 | .lst ts, .lst us => if ts.length + us.length <= sizeLine then some (.lst (ts ++ us)) else none
 | .tup ts, .tup us => if ts.length + us.length <= sizeLine then some (.tup (ts ++ us)) else none
 | _, _ => none
def fAddV : RD2 := fun x y S Q => match x, y with
 | .int i, .int j => Q (.int (i + j)) S
 | .str i, .str j => i.length + j.length <= sizeLine /\ Q (.str (i ++ j)) S
 | .tup ds, .tup es => ds.length + es.length <= sizeLine /\ Q (.tup (ds ++ es)) S
 | .non, _ => False
 | .bl _, _ => False
 | .int _, _ => False
 | .str _, _ => False
 | .tup _, _ => False
 | x, y => match seqOf x S, seqOf y S with
  | some ds, some es => (∀ ts, y ≠ .tup ts) /\ ds.length + es.length <= sizeLine /\ ∀ r, S r = none -> Q (.ref r) (ups S r (.lst (ds ++ es)))
  | _, _ => False
theorem good_add : Good2 RkF addS fAddV := fun S Z x y z d e Q hz hx hy ef hq => by
 unfold addS at ef
 split at ef
 ·cases ef; cases hx.int; cases hy.int
  exact hq _ S (.refl S) (Cl.of (fun _ => nofun) sn_int)
 ·split at ef
  ·rename_i h
   cases ef; cases hx.str; cases hy.str
   exact ⟨h, hq _ S (.refl S) (Cl.of (fun _ => nofun) sn_str)⟩
  ·cases ef
 ·split at ef
  ·rename_i h
   cases ef
   obtain ⟨ds, h1, h2⟩ := hx.seq rfl
   obtain ⟨es, h3, h4⟩ := hy.seq rfl
   have nt : ∀ ts, e ≠ .tup ts := by
    obtain ⟨_, q | ⟨_, q, _⟩, _⟩ := hy.lst <;> subst q <;> exact fun _ => nofun
   have key : (∀ ts, e ≠ .tup ts) /\ ds.length + es.length <= sizeLine /\ ∀ r, S r = none -> Q (.ref r) (ups S r (.lst (ds ++ es))) :=
    ⟨nt, by rw [h2.len, h4.len]; exact h, fun r hr => hq _ _ (.new hr _) (rkF_new hz hr (h2.append h4))⟩
   obtain ⟨_, q | ⟨a, q, _⟩, _⟩ := hx.lst
   ·subst q; unfold fAddV; dsimp only; rw [h1, h3]; exact key
   ·subst q; unfold fAddV; dsimp only; rw [h1, h3]; exact key
  ·cases ef
 ·split at ef
  ·rename_i h
   cases ef
   obtain ⟨ds, rfl, h2⟩ := hx.tup
   obtain ⟨es, rfl, h4⟩ := hy.tup
   exact ⟨by rw [h2.len, h4.len]; exact h, hq _ S (.refl S) (Cl.of (fun _ => nofun) (sn_tup (h2.append h4)))⟩
  ·cases ef
 ·cases ef
def OkT (f : Ev -> Option Bool) (t : TDT) : Prop := ∀ S Z δ ρ y Q, ER S Z δ ρ -> f ρ = some y -> (∀ S', Sx S S' -> Q y S') -> t δ S Q
@[simp] noncomputable def tstS (f : Ev -> Option T) : Ev -> Option Bool := fun ρ => (f ρ).bind fun x => match x with
 | .bl b => some b
 | _ => none
@[simp] noncomputable def truT : T -> Option Bool
 | .non => some false
 | .bl b => some b
 | .int i => some (i != 0)
 | .str x => if x.length <= sizeLine then some ((x.length : Int) != 0) else none
 | .tup ts => some (!ts.isEmpty)
 | .lst ts => some (!ts.isEmpty)
 | .dic => none
@[simp] noncomputable def truS (f : Ev -> Option T) : Ev -> Option Bool := fun ρ => (f ρ).bind truT
@[simp] noncomputable def eAndS (f g : Ev -> Option Bool) : Ev -> Option Bool := fun ρ => (f ρ).bind fun b => if b = true then g ρ else some false
@[simp] noncomputable def eOrS (f g : Ev -> Option Bool) : Ev -> Option Bool := fun ρ => (f ρ).bind fun b => if b = true then some true else g ρ
@[simp] noncomputable def eNotS (f : Ev -> Option Bool) : Ev -> Option Bool := fun ρ => (f ρ).map (!·)
section
variable {f g : Ev -> Option T} {t u : TDE} {fb gb : Ev -> Option Bool} {tb ub : TDT} {R : Rk}
theorem ok_tst (h : OkR f t) : OkT (tstS f) (dTest t) := fun S Z δ ρ y Q hE e hq => by
 obtain ⟨x, e1, e2⟩ := Option.bind_eq_some_iff.mp e
 refine h S Z δ ρ x _ hE e1 fun d S1 s1 r1 => ?_
 split at e2
 ·cases e2
  cases Vw.bl r1
  exact hq S1 s1
 ·cases e2
theorem ok_tru (h : OkR f t) : OkT (truS f) (eTru t) := fun S Z δ ρ y Q hE e hq => by
 obtain ⟨x, e1, e2⟩ := Option.bind_eq_some_iff.mp e
 refine h S Z δ ρ x _ hE e1 fun d S1 s1 r1 => ?_
 cases x with
 | non => cases Vw.non r1; cases e2; exact hq S1 s1
 | bl b => cases Vw.bl r1; cases e2; exact hq S1 s1
 | int b => cases Vw.int r1; cases e2; exact hq S1 s1
 | str b =>
  cases Vw.str r1
  simp only [truT] at e2
  split at e2
  ·rename_i hh
   cases e2; exact ⟨hh, hq S1 s1⟩
  ·cases e2
 | tup ts =>
  obtain ⟨ds, rfl, h2⟩ := Vw.tup r1
  cases e2
  show Q (!ds.isEmpty) S1
  rw [h2.empty]; exact hq S1 s1
 | lst ts =>
  obtain ⟨ds, rfl | ⟨a, rfl, h1⟩, h2⟩ := Vw.lst r1
  ·cases e2
   show Q (!ds.isEmpty) S1
   rw [h2.empty]; exact hq S1 s1
  ·cases e2
   refine tru_ref h1 ?_
   rw [h2.empty]; exact hq S1 s1
 | dic => cases e2
theorem ok_eand (h : OkT fb tb) (h' : OkT gb ub) : OkT (eAndS fb gb) (eAnd tb ub) := fun S Z δ ρ y Q hE e hq => by
 obtain ⟨b, e1, e2⟩ := Option.bind_eq_some_iff.mp e
 refine h S Z δ ρ b _ hE e1 fun S1 s1 => ?_
 split at e2
 ·rename_i hb; rw [if_pos hb]
  exact h' S1 Z δ ρ y _ (hE.grow s1) e2 fun S2 s2 => hq S2 (s1.trans s2)
 ·rename_i hb; rw [if_neg hb]; cases e2; exact hq S1 s1
theorem ok_eor (h : OkT fb tb) (h' : OkT gb ub) : OkT (eOrS fb gb) (eOr tb ub) := fun S Z δ ρ y Q hE e hq => by
 obtain ⟨b, e1, e2⟩ := Option.bind_eq_some_iff.mp e
 refine h S Z δ ρ b _ hE e1 fun S1 s1 => ?_
 split at e2
 ·rename_i hb; rw [if_pos hb]; cases e2; exact hq S1 s1
 ·rename_i hb; rw [if_neg hb]
  exact h' S1 Z δ ρ y _ (hE.grow s1) e2 fun S2 s2 => hq S2 (s1.trans s2)
theorem ok_enot (h : OkT fb tb) : OkT (eNotS fb) (eNot tb) := fun S Z δ ρ y Q hE e hq => by
 unfold eNotS at e
 obtain ⟨b, e1, rfl⟩ := Option.map_eq_some_iff.mp e
 exact h S Z δ ρ b _ hE e1 fun S1 s1 => hq S1 s1
@[simp] noncomputable def andS (f g : Ev -> Option T) : Ev -> Option T := fun ρ => (f ρ).bind fun x => match x with
 | .bl k => if k = true then g ρ else some (.bl false)
 | _ => none
@[simp] noncomputable def notS (f : Ev -> Option T) : Ev -> Option T := fun ρ => (f ρ).bind fun x => match x with
 | .bl k => some (.bl (!k))
 | _ => none
theorem ok_and [Cl R] (h : OkR f t) (h' : OkX R g u) : OkX R (andS f g) (dAnd t u) := fun S Z δ ρ y Q hE e hq => by
 obtain ⟨x, e1, e2⟩ := Option.bind_eq_some_iff.mp e
 refine h S Z δ ρ x _ hE e1 fun d S1 s1 r1 => ?_
 split at e2
 ·cases Vw.bl r1
  split at e2
  ·rename_i hb
   dsimp only; rw [if_pos hb]
   exact h' S1 Z δ ρ y _ (hE.grow s1) e2 fun d S2 s2 r2 => hq d S2 (s1.trans s2) (Cl.cl s1 r2)
  ·rename_i hb
   dsimp only; rw [if_neg hb]
   cases e2
   exact hq _ S1 s1 (Cl.of (fun _ => nofun) sn_bl)
 ·cases e2
theorem ok_not [Cl R] (h : OkR f t) : OkX R (notS f) (dNot t) := fun S Z δ ρ y Q hE e hq => by
 obtain ⟨x, e1, e2⟩ := Option.bind_eq_some_iff.mp e
 refine h S Z δ ρ x _ hE e1 fun d S1 s1 r1 => ?_
 split at e2
 ·cases Vw.bl r1
  cases e2
  exact hq _ S1 s1 (Cl.of (fun _ => nofun) sn_bl)
 ·cases e2
end
noncomputable def Vws (S : SS) (Z : Addr -> Prop) : List T -> List D -> Prop
 | [], ds => ds = []
 | t :: ts, ds => ∃ c cs, ds = c :: cs /\ Vw S Z t c /\ Vws S Z ts cs
def OkA (f : Ev -> Option (List T)) (t : TDA) : Prop := ∀ S Z δ ρ ys Q, ER S Z δ ρ -> f ρ = some ys -> (∀ ds S', Sx S S' -> Vws S' Z ys ds -> Q ds S') -> t δ S Q
def OkAV (f : Ev -> Option (List T)) (t : TDA) : Prop := ∀ S Z δ ρ ys Q, ER S Z δ ρ -> f ρ = some ys -> (∀ ds S', Sx S S' -> Sns (hid S' Z) ys ds -> Q ds S') -> t δ S Q
@[simp] noncomputable def nilS : Ev -> Option (List T) := fun _ => some []
@[simp] noncomputable def consS (f : Ev -> Option T) (g : Ev -> Option (List T)) : Ev -> Option (List T) := fun ρ => (f ρ).bind fun x => (g ρ).bind fun xs => some (x :: xs)
section
variable {f : Ev -> Option T} {g : Ev -> Option (List T)} {t : TDE} {u : TDA}
theorem oka_nil : OkA nilS dNil := fun S Z δ ρ y Q hE e hq => by cases e; exact hq [] S (.refl S) rfl
theorem okav_nil : OkAV nilS dNil := fun S Z δ ρ y Q hE e hq => by cases e; exact hq [] S (.refl S) .nil
theorem oka_cons (h : OkR f t) (h' : OkA g u) : OkA (consS f g) (dCons t u) := fun S Z δ ρ y Q hE e hq => by
 obtain ⟨x, e1, e0⟩ := Option.bind_eq_some_iff.mp e
 obtain ⟨xs, e2, e3⟩ := Option.bind_eq_some_iff.mp e0
 cases e3
 refine h S Z δ ρ x _ hE e1 fun d S1 s1 r1 => ?_
 refine h' S1 Z δ ρ xs _ (hE.grow s1) e2 fun ds S2 s2 r2 => ?_
 exact hq _ S2 (s1.trans s2) ⟨d, ds, rfl, Vw.grow r1 s2, r2⟩
theorem okav_cons (h : OkE f t) (h' : OkAV g u) : OkAV (consS f g) (dCons t u) := fun S Z δ ρ y Q hE e hq => by
 obtain ⟨x, e1, e0⟩ := Option.bind_eq_some_iff.mp e
 obtain ⟨xs, e2, e3⟩ := Option.bind_eq_some_iff.mp e0
 cases e3
 refine h S Z δ ρ x _ hE e1 fun d S1 s1 r1 => ?_
 refine h' S1 Z δ ρ xs _ (hE.grow s1) e2 fun ds S2 s2 r2 => ?_
 exact hq _ S2 (s1.trans s2) (.cons (Sn.sx (hid_mono s2) x r1) r2)
@[simp] noncomputable def tupS (g : Ev -> Option (List T)) : Ev -> Option T := fun ρ => (g ρ).bind fun xs => if xs.length <= sizeLine then some (.tup xs) else none
@[simp] noncomputable def lstS (g : Ev -> Option (List T)) : Ev -> Option T := fun ρ => (g ρ).bind fun xs => if xs.length <= sizeLine then some (.lst xs) else none
theorem ok_tup (h : OkAV g u) : OkF (tupS g) (dTup u) := fun S Z δ ρ y Q hE e hq => by
 obtain ⟨xs, e1, e2⟩ := Option.bind_eq_some_iff.mp e
 split at e2
 ·rename_i hl
  cases e2
  refine h S Z δ ρ xs _ hE e1 fun ds S1 s1 r1 => ⟨by rw [r1.len]; exact hl, hq _ S1 s1 (Cl.of (fun _ => nofun) (sn_tup r1))⟩
 ·cases e2
theorem ok_lst (h : OkAV g u) : OkF (lstS g) (dLst u) := fun S Z δ ρ y Q hE e hq => by
 obtain ⟨xs, e1, e2⟩ := Option.bind_eq_some_iff.mp e
 split at e2
 ·rename_i hl
  cases e2
  refine h S Z δ ρ xs _ hE e1 fun ds S1 s1 r1 => ⟨by rw [r1.len]; exact hl, fun p hp => hq _ _ (s1.trans (.new hp _)) (Cl.cl s1 (rkF_new (hE.grow s1).zd hp r1))⟩
 ·cases e2
end
@[simp] noncomputable def cbS (F : List T -> Option T) (g : Ev -> Option (List T)) : Ev -> Option T := fun ρ => (g ρ).bind F
def GoodN (R : Rk) (F : List T -> Option T) (f : RDn) : Prop := ∀ S Z ys z ds Q, (∀ a, Z a -> S a ≠ none) -> Vws S Z ys ds -> F ys = some z -> (∀ c S', Sx S S' -> R S S' Z z c -> Q c S') -> f ds S Q
theorem ok_cb {R : Rk} [Cl R] {F : List T -> Option T} {f : RDn} {g : Ev -> Option (List T)} {u : TDA} (hf : GoodN R F f) (h : OkA g u) : OkX R (cbS F g) (dCB f u) := fun S Z δ ρ y Q hE e hq => by
 obtain ⟨xs, e1, e2⟩ := Option.bind_eq_some_iff.mp e
 refine h S Z δ ρ xs _ hE e1 fun ds S1 s1 r1 => ?_
 exact hf S1 Z xs y ds Q (hE.grow s1).zd r1 e2 fun c S' s r => hq c S' (s1.trans s) (Cl.cl s1 r)
@[simp] noncomputable def lenS : List T -> Option T
 | [.str z] => if z.length <= sizeLine then some (.int z.length) else none
 | [y] => (seqT y).map fun ts => .int ts.length
 | _ => none
theorem vws1 {S : SS} {Z : Addr -> Prop} {y : T} {ds : List D} (h : Vws S Z [y] ds) : ∃ d, ds = [d] /\ Vw S Z y d := by
 obtain ⟨c, cs, rfl, h1, h2⟩ := h
 cases h2
 exact ⟨c, rfl, h1⟩
theorem vws2 {S : SS} {Z : Addr -> Prop} {y z : T} {ds : List D} (h : Vws S Z [y, z] ds) : ∃ d e, ds = [d, e] /\ Vw S Z y d /\ Vw S Z z e := by
 obtain ⟨c, cs, rfl, h1, c2, cs2, rfl, h2, h3⟩ := h
 cases h3
 exact ⟨c, c2, rfl, h1, h2⟩
theorem good_len : GoodN RkF lenS fLen := fun S Z ys z ds Q hz hv e hq => by
 unfold lenS at e
 split at e
 ·obtain ⟨d, rfl, h1⟩ := vws1 hv
  split at e
  ·rename_i hl
   cases e
   cases h1.str
   exact ⟨hl, hq _ S (.refl S) (Cl.of (fun _ => nofun) sn_int)⟩
  ·cases e
 ·obtain ⟨d, rfl, h1⟩ := vws1 hv
  obtain ⟨ts, e1, rfl⟩ := Option.map_eq_some_iff.mp e
  obtain ⟨es, h2, h3⟩ := h1.seq e1
  refine fLen_seq h2 ?_
  rw [h3.len]
  exact hq _ S (.refl S) (Cl.of (fun _ => nofun) sn_int)
 ·cases e
@[simp] noncomputable def listS : List T -> Option T
 | [y] => (seqT y).map .lst
 | _ => none
theorem good_list : GoodN RkF listS fList := fun S Z ys z ds Q hz hv e hq => by
 unfold listS at e
 split at e
 ·obtain ⟨d, rfl, h1⟩ := vws1 hv
  obtain ⟨ts, e1, rfl⟩ := Option.map_eq_some_iff.mp e
  obtain ⟨es, h2, h3⟩ := h1.seq e1
  exact fList_seq h2 fun p hp => hq _ _ (.new hp _) (rkF_new hz hp h3)
 ·cases e
@[simp] noncomputable def tupleS : List T -> Option T
 | [y] => (seqT y).map .tup
 | _ => none
theorem good_tuple : GoodN RkF tupleS fTuple := fun S Z ys z ds Q hz hv e hq => by
 unfold tupleS at e
 split at e
 ·rename_i y
  obtain ⟨d, rfl, h1⟩ := vws1 hv
  obtain ⟨ts, e1, rfl⟩ := Option.map_eq_some_iff.mp e
  obtain ⟨es, h2, h3⟩ := h1.seq e1
  have k : Q (.tup es) S := hq _ S (.refl S) (Cl.of (fun _ => nofun) (sn_tup h3))
  unfold seqOf at h2
  split at h2
  ·cases h2; exact k
  ·cases h2; exact k
  ·split at h2
   ·rename_i q
    cases h2; exact fTuple_ref q k
   ·cases h2
  ·cases h2
 ·cases e
@[simp] noncomputable def iiS (g : Int -> Int -> Int) : List T -> Option T
 | [.int i, .int j] => some (.int (g i j))
 | _ => none
theorem good_ii {g : Int -> Int -> Int} : GoodN RkF (iiS g) (fII fun i j => .int (g i j)) := fun S Z ys z ds Q hz hv e hq => by
 unfold iiS at e
 split at e
 ·obtain ⟨d, d', rfl, h1, h2⟩ := vws2 hv
  cases e; cases h1.int; cases h2.int
  exact hq _ S (.refl S) (Cl.of (fun _ => nofun) sn_int)
 ·cases e
@[simp] noncomputable def minS : List T -> Option T := iiS fun i j => if j < i then j else i
noncomputable def blsT : List T -> Option (List Bool)
 | [] => some []
 | .bl b :: ts => (blsT ts).map (b :: ·)
 | _ :: _ => none
theorem blsT_some : ∀ {ts : List T} {bs : List Bool}, blsT ts = some bs -> ts = bs.map T.bl
 | [], bs, h => by cases h; rfl
 | .bl b :: ts, bs, h => by
  unfold blsT at h
  obtain ⟨cs, h1, rfl⟩ := Option.map_eq_some_iff.mp h
  rw [List.map_cons, <- blsT_some h1]
 | .non :: ts, bs, h => by cases h
 | .int _ :: ts, bs, h => by cases h
 | .str _ :: ts, bs, h => by cases h
 | .tup _ :: ts, bs, h => by cases h
 | .lst _ :: ts, bs, h => by cases h
theorem blsT_map (bs : List Bool) : blsT (bs.map T.bl) = some bs := by
 induction bs with
 | nil => rfl
 | cons b bs ih => rw [List.map_cons]; unfold blsT; rw [ih]; rfl
@[simp] noncomputable def bsS (g : List Bool -> Bool) : List T -> Option T
 | [.lst ts] => (blsT ts).map fun bs => .bl (g bs)
 | _ => none
def fBsV (g : List Bool -> Bool) : RDn := fun ds S Q => match ds with
 | [.tup _] => False
 | [d] => ∃ bs : List Bool, seqOf d S = some (bs.map D.bl) /\ Q (.bl (g bs)) S
 | _ => False
theorem good_bs {g : List Bool -> Bool} : GoodN RkF (bsS g) (fBsV g) := fun S Z ys z ds Q hz hv e hq => by
 unfold bsS at e
 split at e
 ·obtain ⟨d, rfl, h1⟩ := vws1 hv
  obtain ⟨bs, e1, rfl⟩ := Option.map_eq_some_iff.mp e
  cases blsT_some e1
  obtain ⟨es, h2, h3⟩ := h1.seq rfl
  cases h3.bls
  have key : ∃ bs : List Bool, seqOf d S = some (bs.map D.bl) /\ Q (.bl (g bs)) S := ⟨bs, h2, hq _ S (.refl S) (Cl.of (fun _ => nofun) sn_bl)⟩
  obtain ⟨_, q | ⟨a, q, _⟩, _⟩ := h1.lst
  ·subst q; exact key
  ·subst q; exact key
 ·cases e
end L5
namespace L5
open PySem L2 L3
structure FR (S0 : SS) (Z0 : Addr -> Prop) (S : SS) (Z : Addr -> Prop) (δ : StD) (ρ : Ev) : Prop where
 er : ER S Z δ ρ
 len : δ.length = ρ.length
 sx : Sx S0 S
 z0 : ∀ a, Z0 a -> S0 a ≠ none
 zz : ∀ a, Z0 a -> Z a
 zn : ∀ a, Z a -> Z0 a \/ S0 a = none
 fr : ∀ (i : Nat) ts p, ρ[i]? = some (some (.own ts)) -> δ[i]? = some (some (.ref p)) -> S0 p = none
 dj : ∀ (i j : Nat) ts us p, i ≠ j -> ρ[i]? = some (some (.own ts)) -> ρ[j]? = some (some (.own us)) -> δ[i]? = some (some (.ref p)) -> δ[j]? = some (some (.ref p)) -> False
theorem set_get {α : Type} {l : List α} {i j : Nat} {a b : α} (h : (l.set i a)[j]? = some b) : (i = j /\ i < l.length /\ b = a) \/ (i ≠ j /\ l[j]? = some b) := by
 rw [List.getElem?_set] at h
 by_cases e : i = j
 ·subst e
  rw [if_pos rfl] at h
  by_cases hl : i < l.length
  ·rw [if_pos hl] at h; cases h; exact .inl ⟨rfl, hl, rfl⟩
  ·rw [if_neg hl] at h; cases h
 ·rw [if_neg e] at h; exact .inr ⟨e, h⟩
theorem get_set_ne {α : Type} {l : List α} {i j : Nat} {a : α} (h : i ≠ j) : (l.set i a)[j]? = l[j]? := by rw [List.getElem?_set, if_neg h]
theorem get_set_eq {α : Type} {l : List α} {i : Nat} {a : α} (h : i < l.length) : (l.set i a)[i]? = some a := by rw [List.getElem?_set, if_pos rfl, if_pos h]
section
variable {S0 S S' : SS} {Z0 Z : Addr -> Prop} {δ : StD} {ρ : Ev} {y : T} {d : D}
theorem FR.grow (h : FR S0 Z0 S Z δ ρ) (s : Sx S S') : FR S0 Z0 S' Z δ ρ := ⟨h.er.grow s, h.len, h.sx.trans s, h.z0, h.zz, h.zn, h.fr, h.dj⟩
theorem FR.setIm (h : FR S0 Z0 S Z δ ρ) (i : Nat) (r : Sn (hid S Z) y d) : FR S0 Z0 S Z (δ.set i (some d)) (ρ.set i (some (.im y))) := by
 refine ⟨⟨h.er.zd, fun j t e => ?_, fun j ts e => ?_⟩, by simp [h.len], h.sx, h.z0, h.zz, h.zn, fun j ts p e e' => ?_, fun j k ts us p n e1 e2 e3 e4 => ?_⟩
 ·rcases set_get e with ⟨rfl, hl, e⟩ | ⟨n, e⟩
  ·cases e; exact ⟨d, get_set_eq (by rw [h.len]; exact hl), r⟩
  ·rw [get_set_ne n]; exact h.er.im j t e
 ·rcases set_get e with ⟨rfl, hl, e⟩ | ⟨n, e⟩
  ·cases e
  ·rw [get_set_ne n]; exact h.er.ow j ts e
 ·rcases set_get e with ⟨rfl, hl, e⟩ | ⟨n, e⟩
  ·cases e
  ·rw [get_set_ne n] at e'; exact h.fr j ts p e e'
 ·rcases set_get e1 with ⟨rfl, hl, e⟩ | ⟨n1, e1⟩
  ·cases e
  rcases set_get e2 with ⟨rfl, hl, e⟩ | ⟨n2, e2⟩
  ·cases e
  rw [get_set_ne n1] at e3; rw [get_set_ne n2] at e4
  exact h.dj j k ts us p n e1 e2 e3 e4
theorem FR.setOwn {ts : C} {ds : O} {p : Addr} (h : FR S0 Z0 S Z δ ρ) (s : Sx S S') (i : Nat) (hp : S p = none) (hd : S' p = some ds) (r : RepC (hid S' fun a => Z a \/ a = p) ts ds) :
  FR S0 Z0 S' (fun a => Z a \/ a = p) (δ.set i (some (.ref p))) (ρ.set i (some (.own ts))) := by
 have np : ∀ (j : Nat) us q, ρ[j]? = some (some (.own us)) -> δ[j]? = some (some (.ref q)) -> q ≠ p := fun j us q e e' z => by
  subst z
  obtain ⟨p', ds', h1, h2, _⟩ := h.er.ow j us e
  rw [e'] at h1; cases h1; rw [hp] at h2; cases h2
 refine ⟨⟨fun a z => ?_, fun j t e => ?_, fun j us e => ?_⟩, by simp [h.len], h.sx.trans s, h.z0, fun a z => .inl (h.zz a z), fun a z => z.elim (h.zn a) (fun q => .inr (by subst q; exact h.sx.none hp)), fun j us q e e' => ?_, fun j k us vs q n e1 e2 e3 e4 => ?_⟩
 ·rcases z with z | rfl
  ·exact fun q => h.er.zd a z (s.none q)
  ·rw [hd]; nofun
 ·rcases set_get e with ⟨rfl, hl, e⟩ | ⟨n, e⟩
  ·cases e
  ·rw [get_set_ne n]
   obtain ⟨d, h1, h2⟩ := h.er.im j t e
   exact ⟨d, h1, Sn.sx (hid_new s hp) t h2⟩
 ·rcases set_get e with ⟨rfl, hl, e⟩ | ⟨n, e⟩
  ·cases e; exact ⟨p, ds, get_set_eq (by rw [h.len]; exact hl), hd, r, .inr rfl⟩
  ·rw [get_set_ne n]
   obtain ⟨q, es, h1, h2, h3, h4⟩ := h.er.ow j us e
   exact ⟨q, es, h1, s _ _ h2, RepC.sx (hid_new s hp) h3, .inl h4⟩
 ·rcases set_get e with ⟨rfl, hl, e⟩ | ⟨n, e⟩
  ·rw [get_set_eq (by rw [h.len]; exact hl)] at e'; cases e'; exact h.sx.none hp
  ·rw [get_set_ne n] at e'; exact h.fr j us q e e'
 ·rcases set_get e1 with ⟨rfl, hl, e⟩ | ⟨n1, e1⟩
  ·rcases set_get e2 with ⟨rfl, _, _⟩ | ⟨n2, e2⟩
   ·exact n rfl
   ·rw [get_set_eq (by rw [h.len]; exact hl)] at e3; cases e3
    rw [get_set_ne n2] at e4
    exact np k vs p e2 e4 rfl
  ·rcases set_get e2 with ⟨rfl, hl, _⟩ | ⟨n2, e2⟩
   ·rw [get_set_eq (by rw [h.len]; exact hl)] at e4; cases e4
    rw [get_set_ne n1] at e3
    exact np j us p e1 e3 rfl
   ·rw [get_set_ne n1] at e3; rw [get_set_ne n2] at e4
    exact h.dj j k us vs q n e1 e2 e3 e4
theorem FR.forget (h : FR S0 Z0 S Z δ ρ) (i : Nat) : FR S0 Z0 S Z δ (ρ.set i none) := by
 refine ⟨⟨h.er.zd, fun j t e => ?_, fun j ts e => ?_⟩, by simp [h.len], h.sx, h.z0, h.zz, h.zn, fun j ts p e e' => ?_, fun j k ts us p n e1 e2 e3 e4 => ?_⟩
 ·rcases set_get e with ⟨rfl, hl, e⟩ | ⟨n, e⟩
  ·cases e
  ·exact h.er.im j t e
 ·rcases set_get e with ⟨rfl, hl, e⟩ | ⟨n, e⟩
  ·cases e
  ·exact h.er.ow j ts e
 ·rcases set_get e with ⟨rfl, hl, e⟩ | ⟨n, e⟩
  ·cases e
  ·exact h.fr j ts p e e'
 ·rcases set_get e1 with ⟨rfl, hl, e⟩ | ⟨n1, e1⟩
  ·cases e
  rcases set_get e2 with ⟨rfl, hl, e⟩ | ⟨n2, e2⟩
  ·cases e
  exact h.dj j k ts us p n e1 e2 e3 e4
@[simp] noncomputable def frg (is : List Nat) (ρ : Ev) : Ev := is.foldl (fun ρ i => ρ.set i none) ρ
theorem FR.frg : ∀ (is : List Nat) {ρ : Ev}, FR S0 Z0 S Z δ ρ -> FR S0 Z0 S Z δ (frg is ρ)
 | [], _, h => h
 | i :: is, _, h => FR.frg is (h.forget i)
theorem FR.mut {ts us : C} {es : O} {p : Addr} (h : FR S0 Z0 S Z δ ρ) (i : Nat) (e : ρ[i]? = some (some (.own ts))) (ed : δ[i]? = some (some (.ref p))) (r : RepC (hid S Z) us es) :
  FR S0 Z0 (ups S p es) Z δ (ρ.set i (some (.own us))) := by
 obtain ⟨p', ds, h1, h2, h3, h4⟩ := h.er.ow i ts e
 rw [ed] at h1; cases h1
 have hh : hid (ups S p es) Z = hid S Z := hid_ups h4
 have hpn := h.fr i ts p e ed
 refine ⟨⟨fun a z => ?_, fun j t e' => ?_, fun j vs e' => ?_⟩, by simp [h.len], fun b o q => ?_, h.z0, h.zz, h.zn, fun j vs q e' ed' => ?_, fun j k vs ws q n e1 e2 e3 e4 => ?_⟩
 ·by_cases hp : a = p
  ·subst hp; rw [ups_same]; nofun
  ·rw [ups_ne hp]; exact h.er.zd a z
 ·rw [hh]
  rcases set_get e' with ⟨rfl, hl, e'⟩ | ⟨n, e'⟩
  ·cases e'
  ·exact h.er.im j t e'
 ·rw [hh]
  rcases set_get e' with ⟨rfl, hl, e'⟩ | ⟨n, e'⟩
  ·cases e'; exact ⟨p, es, ed, ups_same, r, h4⟩
  ·obtain ⟨q, es', g1, g2, g3, g4⟩ := h.er.ow j vs e'
   refine ⟨q, es', g1, ?_, g3, g4⟩
   rw [ups_ne (fun z => by subst z; exact h.dj i j ts vs q n e e' ed g1)]; exact g2
 ·rw [ups_ne (fun z => by subst z; rw [hpn] at q; cases q)]; exact h.sx b o q
 ·rcases set_get e' with ⟨rfl, hl, _⟩ | ⟨n, e'⟩
  ·rw [ed] at ed'; cases ed'; exact hpn
  ·exact h.fr j vs q e' ed'
 ·rcases set_get e1 with ⟨rfl, hl, _⟩ | ⟨n1, e1⟩
  ·rcases set_get e2 with ⟨rfl, hl, _⟩ | ⟨n2, e2⟩
   ·exact n rfl
   ·exact h.dj _ k ts ws q n e e2 e3 e4
  ·rcases set_get e2 with ⟨rfl, hl, _⟩ | ⟨n2, e2⟩
   ·exact h.dj j _ vs ts q n e1 e e3 e4
   ·exact h.dj j k vs ws q n e1 e2 e3 e4
noncomputable def reb (S0 S : SS) (Z : Addr -> Prop) : SS := open Classical in fun a => if S0 a = none /\ Z a then none else S a
theorem reb_of {a : Addr} (h : ¬ (S0 a = none /\ Z a)) : reb S0 S Z a = S a := if_neg h
theorem reb_no {a : Addr} (h : S0 a = none /\ Z a) : reb S0 S Z a = none := if_pos h
theorem FR.rebase (h : FR S0 Z0 S Z δ ρ) : ∃ S1, Sx S0 S1 /\ FR S1 Z0 S Z δ ρ /\ Sx (hid S Z) S1 := by
 refine ⟨reb S0 S Z, fun b o q => ?_, ⟨h.er, h.len, fun b o q => ?_, fun a z => ?_, h.zz, fun a z => ?_, fun i ts p e ed => ?_, h.dj⟩, fun b o q => ?_⟩
 ·rw [reb_of (fun z => by rw [z.1] at q; cases q)]; exact h.sx _ _ q
 ·by_cases w : S0 b = none /\ Z b
  ·rw [reb_no w] at q; cases q
  ·rw [reb_of w] at q; exact q
 ·rw [reb_of (fun q => h.z0 a z q.1)]
  exact h.er.zd a (h.zz a z)
 ·rcases h.zn a z with w | w
  ·exact .inl w
  ·exact .inr (reb_no ⟨w, z⟩)
 ·obtain ⟨p', ds, h1, h2, h3, h4⟩ := h.er.ow i ts e
  rw [ed] at h1; cases h1
  exact reb_no ⟨h.fr i ts p e ed, h4⟩
 ·obtain ⟨q1, q2⟩ := hid_some q
  rw [reb_of (fun z => q1 z.2)]; exact q2
theorem FR.back {S1 : SS} (h : FR S1 Z0 S Z δ ρ) (s : Sx S0 S1) (z0 : ∀ a, Z0 a -> S0 a ≠ none) : FR S0 Z0 S Z δ ρ := ⟨h.er, h.len, s.trans h.sx, z0, h.zz, fun a z => (h.zn a z).imp id s.none, fun i ts p e ed => s.none (h.fr i ts p e ed), h.dj⟩
theorem FR.see {S1 : SS} {Z1 : Addr -> Prop} (h : FR S0 Z0 S Z δ ρ) (b : Sx (hid S1 Z1) S0) (zz : ∀ a, Z0 a -> Z1 a) : Sx (hid S1 Z1) (hid S Z) := fun a o q => by
 have q0 := b _ _ q
 obtain ⟨q1, q2⟩ := hid_some q
 rw [hid_of]
 ·exact h.sx _ _ q0
 ·intro z
  rcases h.zn a z with w | w
  ·exact q1 (zz a w)
  ·rw [w] at q0; cases q0
end
inductive Out where
 | nx (ρ : Ev) | rt (t : T) | bk (ρ : Ev) | ct (ρ : Ev)
abbrev Sm := Ev -> Option Out
def Post (R : Rk) (S0 : SS) (Z0 : Addr -> Prop) (o : Out) (E : EndsD) : Prop := match o with
 | .nx ρ => ∀ S Z δ, FR S0 Z0 S Z δ ρ -> E.nx δ S
 | .bk ρ => ∀ S Z δ, FR S0 Z0 S Z δ ρ -> E.bk δ S
 | .ct ρ => ∀ S Z δ, FR S0 Z0 S Z δ ρ -> E.ct δ S
 | .rt y => ∀ d S, Sx S0 S -> R S0 S Z0 y d -> E.rt d S
def OkS (R : Rk) (g : Sm) (t : TDS) : Prop := ∀ S0 Z0 S Z δ ρ o E, FR S0 Z0 S Z δ ρ -> g ρ = some o -> Post R S0 Z0 o E -> t E δ S
class Lo (R : Rk) : Prop extends Cl R where
 lo : ∀ {S0 S S' : SS} {Z0 Z : Addr -> Prop} {y : T} {d : D}, Sx S0 S -> (∀ a, Z0 a -> Z a) -> R S S' Z y d -> R S0 S' Z0 y d
instance : Lo RkV := ⟨fun _ z h => Sn.sx (hid_le z) _ h⟩
instance : Lo RkF := ⟨fun s z h => ⟨Sn.sx (hid_le z) _ h.1, fun ts e => by
 obtain ⟨p, ds, h1, h2, h3, h4⟩ := h.2 ts e
 exact ⟨p, ds, h1, s.none h2, h3, Sns.sx (hid_le fun a q => q.imp (z a) id) ts h4⟩⟩⟩
@[simp] noncomputable def seqS (g h : Sm) : Sm := fun ρ => (g ρ).bind fun o => match o with
 | .nx ρ' => h ρ'
 | o => some o
@[simp] noncomputable def skipS : Sm := fun ρ => some (.nx ρ)
@[simp] noncomputable def asgS (i : Nat) (f : Ev -> Option T) : Sm := fun ρ => (f ρ).map fun y => .nx (ρ.set i (some (.im y)))
@[simp] noncomputable def asgO (i : Nat) (f : Ev -> Option T) : Sm := fun ρ => (f ρ).bind fun y => match y with
 | .lst ts => some (.nx (ρ.set i (some (.own (.lst ts)))))
 | y => some (.nx (ρ.set i (some (.im y))))
@[simp] noncomputable def retS (f : Ev -> Option T) : Sm := fun ρ => (f ρ).map .rt
@[simp] noncomputable def retO (i : Nat) : Sm := fun ρ => match ρ[i]? with
 | some (some (.own (.lst ts))) => some (.rt (.lst ts))
 | _ => none
@[simp] noncomputable def ifS (c : Ev -> Option Bool) (g h : Sm) : Sm := fun ρ => (c ρ).bind fun b => if b = true then g ρ else h ρ
section
variable {R : Rk} {g h : Sm} {t u : TDS} {f : Ev -> Option T} {te : TDE}
theorem oks_seq (hg : OkS R g t) (hh : OkS R h u) : OkS R (seqS g h) (dSeq t u) := fun S0 Z0 S Z δ ρ o E F e P => by
 obtain ⟨o1, e1, e2⟩ := Option.bind_eq_some_iff.mp e
 refine hg S0 Z0 S Z δ ρ o1 { E with nx := u E } F e1 ?_
 cases o1 with
 | nx ρ1 => exact fun S1 Z1 δ1 F1 => hh S0 Z0 S1 Z1 δ1 ρ1 o E F1 e2 P
 | rt y => cases e2; exact P
 | bk y => cases e2; exact P
 | ct y => cases e2; exact P
theorem oks_skip : OkS R skipS dNext := fun S0 Z0 S Z δ ρ o E F e P => by cases e; exact P S Z δ F
theorem oks_asg (i : Nat) (hf : OkE f te) : OkS R (asgS i f) (dAsg te (hName i)) := fun S0 Z0 S Z δ ρ o E F e P => by
 obtain ⟨y, e1, rfl⟩ := Option.map_eq_some_iff.mp e
 exact hf S Z δ ρ y _ F.er e1 fun d S1 s1 r1 => P S1 Z _ ((F.grow s1).setIm i r1)
theorem oks_asgO (i : Nat) (hf : OkF f te) : OkS R (asgO i f) (dAsg te (hName i)) := fun S0 Z0 S Z δ ρ o E F e P => by
 obtain ⟨y, e1, e2⟩ := Option.bind_eq_some_iff.mp e
 refine hf S Z δ ρ y _ F.er e1 fun d S1 s1 r1 => ?_
 cases y with
 | lst ts =>
  cases e2
  obtain ⟨p, ds, rfl, h1, h2, h3⟩ := r1.2 ts rfl
  exact P S1 _ _ (F.setOwn (ts := .lst ts) (ds := .lst ds) s1 i h1 h2 h3)
 | non => cases e2; exact P S1 Z _ ((F.grow s1).setIm i r1.1)
 | bl _ => cases e2; exact P S1 Z _ ((F.grow s1).setIm i r1.1)
 | int _ => cases e2; exact P S1 Z _ ((F.grow s1).setIm i r1.1)
 | str _ => cases e2; exact P S1 Z _ ((F.grow s1).setIm i r1.1)
 | tup _ => cases e2; exact P S1 Z _ ((F.grow s1).setIm i r1.1)
 | dic => cases e2; exact P S1 Z _ ((F.grow s1).setIm i r1.1)
theorem oks_ret [Lo R] (hf : OkX R f te) : OkS R (retS f) (dRet te) := fun S0 Z0 S Z δ ρ o E F e P => by
 obtain ⟨y, e1, rfl⟩ := Option.map_eq_some_iff.mp e
 exact hf S Z δ ρ y _ F.er e1 fun d S1 s1 r1 => P d S1 (F.sx.trans s1) (Lo.lo F.sx F.zz r1)
theorem oks_retO (i : Nat) : OkS RkF (retO i) (dRet (dVar i)) := fun S0 Z0 S Z δ ρ o E F e P => by
 unfold retO at e
 split at e
 ·rename_i ts h
  cases e
  obtain ⟨p, ob, h1, h2, h3, h4⟩ := F.er.ow i _ h
  obtain ⟨ds, rfl⟩ : ∃ ds, ob = .lst ds := by
   cases ob with
   | lst ds => exact ⟨ds, rfl⟩
   | dct _ => exact h3.elim
  replace h3 : Sns (hid S Z) ts ds := h3
  have hn := F.fr i _ p h h1
  have nz : ¬ Z0 p := fun z => F.z0 p z hn
  show dVar i δ S E.rt
  unfold dVar; rw [h1]
  refine P _ S F.sx ⟨?_, fun us e => ?_⟩
  ·simp only [Sn]
   exact ⟨ds, .inr ⟨p, rfl, by rw [hid_of nz]; exact h2⟩, Sns.sx (hid_le F.zz) ts h3⟩
  ·cases e
   exact ⟨p, ds, rfl, hn, h2, Sns.sx (hid_le fun a q => q.elim (F.zz a) fun q => q ▸ h4) ts h3⟩
 ·cases e
theorem oks_if {c : Ev -> Option Bool} {tc : TDT} (hc : OkT c tc) (hg : OkS R g t) (hh : OkS R h u) : OkS R (ifS c g h) (dIfS tc t u) := fun S0 Z0 S Z δ ρ o E F e P => by
 obtain ⟨b, e1, e2⟩ := Option.bind_eq_some_iff.mp e
 refine hc S Z δ ρ b _ F.er e1 fun S1 s1 => ?_
 split at e2
 ·rename_i hb; rw [if_pos hb]; exact hg S0 Z0 S1 Z δ ρ o E (F.grow s1) e2 P
 ·rename_i hb; rw [if_neg hb]; exact hh S0 Z0 S1 Z δ ρ o E (F.grow s1) e2 P
def OkG (g : T -> Ev -> Option Ev) (t : TDG) : Prop := ∀ S0 Z0 S Z δ ρ ρ' y d Q, FR S0 Z0 S Z δ ρ -> Sn (hid S Z) y d -> g y ρ = some ρ' -> (∀ δ', FR S0 Z0 S Z δ' ρ' -> Q δ' S) -> t d δ S Q
def OkGs (g : List T -> Ev -> Option Ev) (t : TDGs) : Prop := ∀ S0 Z0 S Z δ ρ ρ' ys ds Q, FR S0 Z0 S Z δ ρ -> Sns (hid S Z) ys ds -> g ys ρ = some ρ' -> (∀ δ', FR S0 Z0 S Z δ' ρ' -> Q δ' S) -> t ds δ S Q
@[simp] noncomputable def nmG (i : Nat) : T -> Ev -> Option Ev := fun y ρ => some (ρ.set i (some (.im y)))
@[simp] noncomputable def nilG : List T -> Ev -> Option Ev
 | [], ρ => some ρ
 | _ :: _, _ => none
@[simp] noncomputable def consG (g : T -> Ev -> Option Ev) (h : List T -> Ev -> Option Ev) : List T -> Ev -> Option Ev
 | y :: ys, ρ => (g y ρ).bind fun ρ' => h ys ρ'
 | [], _ => none
@[simp] noncomputable def tpG (n : Nat) (g : List T -> Ev -> Option Ev) : T -> Ev -> Option Ev
 | .tup ys, ρ => if ys.length = n then g ys ρ else none
 | _, _ => none
theorem okg_nm (i : Nat) : OkG (nmG i) (hName i) := fun S0 Z0 S Z δ ρ ρ' y d Q F r e hq => by cases e; exact hq _ (F.setIm i r)
theorem okgs_nil : OkGs nilG hNil := fun S0 Z0 S Z δ ρ ρ' ys ds Q F r e hq => by
 cases ys with
 | nil => simp only [Sns] at r; subst r; cases e; exact ⟨rfl, hq _ F⟩
 | cons _ _ => cases e
theorem okgs_cons {g : T -> Ev -> Option Ev} {h : List T -> Ev -> Option Ev} {t : TDG} {u : TDGs} (hg : OkG g t) (hh : OkGs h u) : OkGs (consG g h) (hCons t u) := fun S0 Z0 S Z δ ρ ρ' ys ds Q F r e hq => by
 cases ys with
 | nil => cases e
 | cons y ys =>
  simp only [Sns] at r
  obtain ⟨c, cs, rfl, r1, r2⟩ := r
  obtain ⟨ρ1, e1, e2⟩ := Option.bind_eq_some_iff.mp e
  exact hg S0 Z0 S Z δ ρ ρ1 y c _ F r1 e1 fun δ1 F1 => hh S0 Z0 S Z δ1 ρ1 ρ' ys cs Q F1 r2 e2 hq
theorem okg_tp {n : Nat} {g : List T -> Ev -> Option Ev} {t : TDGs} (hg : OkGs g t) : OkG (tpG n g) (hTup n t) := fun S0 Z0 S Z δ ρ ρ' y d Q F r e hq => by
 cases y with
 | tup ys =>
  simp only [Sn] at r
  obtain ⟨ds, rfl, r⟩ := r
  simp only [tpG] at e
  split at e
  ·rename_i hl
   exact ⟨by rw [r.len]; exact hl, hg S0 Z0 S Z δ ρ ρ' ys ds Q F r e hq⟩
  ·cases e
 | non => cases e
 | bl _ => cases e
 | int _ => cases e
 | str _ => cases e
 | lst _ => cases e
 | dic => cases e
def OkI (free : Bool) (f : Ev -> Option (List T)) (ti : TDI) : Prop := ∀ S Z δ ρ ts Q, ER S Z δ ρ -> f ρ = some ts -> (∀ I S', Sx S S' -> Sns (hid S' Z) ts I.items -> (∀ S'', Sx (if free = true then hid S' Z else S') S'' -> I.keep S'') -> Q I S') -> ti δ S Q
@[simp] noncomputable def itS (f : Ev -> Option T) : Ev -> Option (List T) := fun ρ => (f ρ).bind seqT
theorem oki_seqR {f : Ev -> Option T} {te : TDE} (hf : OkR f te) : OkI false (itS f) (jSeq te) := fun S Z δ ρ ts Q hE e hq => by
 obtain ⟨y, e1, e2⟩ := Option.bind_eq_some_iff.mp e
 refine hf S Z δ ρ y _ hE e1 fun d S1 s1 r1 => ?_
 cases y with
 | tup us =>
  cases e2
  obtain ⟨ds, rfl, h2⟩ := Vw.tup r1
  exact hq _ S1 s1 h2 fun _ _ => trivial
 | lst us =>
  cases e2
  obtain ⟨ds, rfl | ⟨a, rfl, h1⟩, h2⟩ := Vw.lst r1
  ·exact hq _ S1 s1 h2 fun _ _ => trivial
  ·dsimp only; rw [h1]
   exact hq ⟨ds, _⟩ S1 s1 h2 fun S'' s => s _ _ h1
 | non => cases e2
 | bl _ => cases e2
 | int _ => cases e2
 | str _ => cases e2
 | dic => cases e2
theorem oki_seq {f : Ev -> Option T} {te : TDE} (hf : OkE f te) : OkI true (itS f) (jSeq te) := fun S Z δ ρ ts Q hE e hq => by
 obtain ⟨y, e1, e2⟩ := Option.bind_eq_some_iff.mp e
 refine hf S Z δ ρ y _ hE e1 fun d S1 s1 r1 => ?_
 cases y with
 | tup us =>
  cases e2
  obtain ⟨ds, rfl, h2⟩ := Vw.tup (.inl r1)
  exact hq _ S1 s1 h2 fun _ _ => trivial
 | lst us =>
  cases e2
  have r2 := r1
  unfold RkV at r2
  simp only [Sn] at r2
  obtain ⟨ds, rfl | ⟨a, rfl, h1⟩, h2⟩ := r2
  ·exact hq _ S1 s1 h2 fun _ _ => trivial
  ·dsimp only; rw [(hid_some h1).2]
   exact hq ⟨ds, _⟩ S1 s1 h2 fun S'' s => s _ _ h1
 | non => cases e2
 | bl _ => cases e2
 | int _ => cases e2
 | str _ => cases e2
 | dic => cases e2
noncomputable def rangeT (lo : Int) (n : Nat) : List T := (List.range n).map fun (k : Nat) => T.int (lo + (k : Int))
theorem sns_range {S : SS} (lo : Int) (n : Nat) : Sns S (rangeT lo n) (rangeD lo n) := by
 unfold rangeT rangeD
 induction List.range n with
 | nil => exact .nil
 | cons k l ih => exact .cons sn_int ih
noncomputable def inR (j : Int) : Bool := decide (-100000000 <= j) && decide (j <= 100000000)
theorem inR_iff {j : Int} : inR j = true ↔ -100000000 <= j /\ j <= 100000000 := by simp [inR]
theorem inR_62 {j : Int} (h : inR j = true) : -(2 ^ 62) <= j /\ j < 2 ^ 62 := by have := inR_iff.mp h; omega
noncomputable def rng1 : List T -> Option (List T)
 | [.int j] => if inR j = true then some (rangeT 0 j.toNat) else none
 | _ => none
noncomputable def rng2 : List T -> Option (List T)
 | [.int i, .int j] => if inR i = true /\ inR j = true then some (rangeT i (j - i).toNat) else none
 | _ => none
@[simp] noncomputable def itA (F : List T -> Option (List T)) (g : Ev -> Option (List T)) : Ev -> Option (List T) := fun ρ => (g ρ).bind F
theorem oki_rng2 {b : Bool} {g : Ev -> Option (List T)} {tA : TDA} (h : OkA g tA) : OkI b (itA rng2 g) (jRng2 tA) := fun S Z δ ρ ts Q hE e hq => by
 obtain ⟨ys, e1, e2⟩ := Option.bind_eq_some_iff.mp e
 refine h S Z δ ρ ys _ hE e1 fun ds S1 s1 r1 => ?_
 unfold rng2 at e2
 split at e2
 ·split at e2
  ·rename_i hc
   cases e2
   obtain ⟨d, d', rfl, h1, h2⟩ := vws2 r1
   cases h1.int; cases h2.int
   exact ⟨⟨(inR_62 hc.1).1, (inR_62 hc.1).2, inR_62 hc.2⟩, hq _ S1 s1 (sns_range _ _) fun _ _ => trivial⟩
  ·cases e2
 ·cases e2
noncomputable def loopS (is : List Nat) (g : T -> Ev -> Option Ev) (b : Sm) : List T -> Ev -> Option Out
 | [], ρ => some (.nx (frg is ρ))
 | y :: ys, ρ => (g y (frg is ρ)).bind fun ρ1 => (b ρ1).bind fun o => match o with
  | .nx ρ2 => loopS is g b ys ρ2
  | .ct ρ2 => loopS is g b ys ρ2
  | .bk ρ2 => some (.nx (frg is ρ2))
  | .rt t => some (.rt t)
@[simp] noncomputable def forS (is : List Nat) (f : Ev -> Option (List T)) (g : T -> Ev -> Option Ev) (b : Sm) : Sm := fun ρ => (f ρ).bind fun ts => loopS is g b ts ρ
theorem oks_for {is : List Nat} {fi : Ev -> Option (List T)} {ti : TDI} {g : T -> Ev -> Option Ev} {tg : TDG} {b : Sm} {tb : TDS} [Lo R] (hi : OkI true fi ti) (hg : OkG g tg) (hb : OkS R b tb) : OkS R (forS is fi g b) (dFor ti tg tb) := fun S0 Z0 S Z δ ρ o E F e P => by
 obtain ⟨ts, e1, e2⟩ := Option.bind_eq_some_iff.mp e
 refine hi S Z δ ρ ts _ F.er e1 fun I S1 s1 r1 hk => ?_
 rw [if_pos rfl] at hk
 obtain ⟨SB, b1, FB, b2⟩ := (F.grow s1).rebase
 have lo : ∀ S' d y, R SB S' Z0 y d -> R S0 S' Z0 y d := fun S' d y r => Lo.lo b1 (fun _ z => z) r
 have zz := F.zz
 refine ⟨fun i δ' S' => ∃ Z' ρ', FR SB Z0 S' Z' δ' ρ' /\ loopS is g b (ts.drop i) ρ' = some o, ⟨Z, ρ, FB, e2⟩, fun i δ' S' ⟨Z', ρ', F', _⟩ => hk S' (b2.trans F'.sx), fun i d δ' S' hd ⟨Z', ρ', F', e'⟩ => ?_, fun δ' S' ⟨Z', ρ', F', e'⟩ => ?_⟩
 ·obtain ⟨y, hy, r2⟩ := r1.getD' hd
  have hlt := (List.getElem?_eq_some_iff.mp hy).1
  have hdt : ts.drop i = y :: ts.drop (i + 1) := by
   rw [List.drop_eq_getElem_cons hlt, (List.getElem?_eq_some_iff.mp hy).2]
  rw [hdt] at e'
  unfold loopS at e'
  obtain ⟨ρ1, g1, e'⟩ := Option.bind_eq_some_iff.mp e'
  obtain ⟨o1, g2, e'⟩ := Option.bind_eq_some_iff.mp e'
  refine hg SB Z0 S' Z' δ' _ ρ1 y d _ (F'.frg is) (Sn.sx (F'.see b2 zz) y r2) g1 fun δ2 F2 => ?_
  refine hb SB Z0 S' Z' δ2 ρ1 o1 _ F2 g2 ?_
  cases o1 with
  | nx ρ2 => exact fun S3 Z3 δ3 F3 => ⟨Z3, ρ2, F3, e'⟩
  | ct ρ2 => exact fun S3 Z3 δ3 F3 => ⟨Z3, ρ2, F3, e'⟩
  | bk ρ2 => cases e'; exact fun S3 Z3 δ3 F3 => P S3 Z3 δ3 ((F3.frg is).back b1 F.z0)
  | rt y => cases e'; exact fun d S3 s3 r3 => P d S3 (b1.trans s3) (lo _ _ _ r3)
 ·rw [show I.items.length = ts.length from r1.len, List.drop_length] at e'
  unfold loopS at e'
  cases e'
  exact P S' Z' δ' ((F'.frg is).back b1 F.z0)
end
end L5
namespace L5
open PySem L2 L3
@[simp] noncomputable def appS (i : Nat) (f : Ev -> Option T) : Sm := fun ρ => match ρ[i]? with
 | some (some (.own (.lst ts))) => (f ρ).bind fun y => if ts.length < sizeLine then some (.nx (ρ.set i (some (.own (.lst (ts ++ [y])))))) else none
 | _ => none
section
variable {R : Rk} {f : Ev -> Option T} {te : TDE}
theorem oks_app (i : Nat) (hf : OkE f te) : OkS R (appS i f) (dDrop (dAppend (dVar i) te)) := fun S0 Z0 S Z δ ρ o E F e P => by
 unfold appS at e
 split at e
 ·rename_i ts h
  obtain ⟨y, e1, e2⟩ := Option.bind_eq_some_iff.mp e
  split at e2
  ·rename_i hl
   cases e2
   obtain ⟨p, ob, h1, h2, h3, h4⟩ := F.er.ow i _ h
   obtain ⟨ds, rfl⟩ : ∃ ds, ob = .lst ds := by
    cases ob with
    | lst ds => exact ⟨ds, rfl⟩
    | dct _ => exact h3.elim
   replace h3 : Sns (hid S Z) ts ds := h3
   show dAppend (dVar i) te δ S _
   unfold dAppend dVar
   rw [h1]
   refine ⟨⟨ds, h2⟩, hf S Z δ ρ y _ F.er e1 fun d S1 s1 r1 => ?_⟩
   dsimp only
   rw [s1 _ _ h2]
   have F1 := F.grow s1
   refine ⟨by rw [h3.len]; exact hl, P _ Z δ (F1.mut (us := .lst (ts ++ [y])) (es := .lst (ds ++ [d])) i h h1 ((Sns.sx (hid_mono s1) ts h3).append (.cons r1 .nil)))⟩
  ·cases e2
 ·cases e
end
def dLW (pick : List (Option Nat)) (ti : TDI) (g : TDG) (tc : TDT) (te : TDE) : TDE := fun δ S Q => ti δ S fun I S1 => I.items.length <= sizeLine /\ (∀ S, Sx S1 S -> I.keep S) /\ ∀ p, S1 p = none -> ∃ W : Nat -> SS -> List D -> Prop, W 0 S1 [] /\
 (∀ i S S' acc, (∀ b o, b ≠ p -> S b = some o -> S' b = some o) -> W i S acc -> W i S' acc) /\
 (∀ i d S acc, I.items[i]? = some d -> Sx S1 S -> S p = some (.lst acc) -> W i S acc -> g d (pickD pick δ) S fun δ2 S2 => StLe (pickD pick δ) δ2 /\ tc δ2 S2 fun b S3 => if b = true then te δ2 S3 fun y S4 => Sx S S4 /\ W (i + 1) S4 (acc ++ [y]) else Sx S S3 /\ W (i + 1) S3 acc) /\
 ∀ S2 acc, Sx S1 S2 -> S2 p = some (.lst acc) -> W I.items.length S2 acc -> Q (.ref p) S2
@[simp] noncomputable def pickW (pick : List (Option Nat)) (ρ : Ev) : Ev := pick.map fun o => o.bind fun i => (ρ[i]?).join
noncomputable def compL (h : T -> Option (Option T)) : List T -> Option (List T)
 | [] => some []
 | y :: ys => (h y).bind fun o => (compL h ys).map fun zs => match o with
  | some z => z :: zs
  | none => zs
@[simp] noncomputable def lcE (pick : List (Option Nat)) (g : T -> Ev -> Option Ev) (c : Ev -> Option Bool) (f : Ev -> Option T) (ρ : Ev) (y : T) : Option (Option T) :=
 (g y (pickW pick ρ)).bind fun ρ2 => (c ρ2).bind fun b => if b = true then (f ρ2).map some else some none
noncomputable def lcS (pick : List (Option Nat)) (it : Ev -> Option (List T)) (g : T -> Ev -> Option Ev) (c : Ev -> Option Bool) (f : Ev -> Option T) : Ev -> Option T := fun ρ => (it ρ).bind fun ts => if ts.length <= sizeLine then (compL (lcE pick g c f ρ) ts).map .lst else none
@[simp] noncomputable def cTrue : Ev -> Option Bool := fun _ => some true
theorem ok_true : OkT cTrue eTrue := fun S Z δ ρ y Q hE e hq => by cases e; exact hq S (.refl S)
def OkC (pick : List (Option Nat)) (g : T -> Ev -> Option Ev) (t : TDG) : Prop := ∀ B S Z δ ρ ρ' y d Q, (∀ i : Nat, pick[i]? = some none -> B[i]? = some none) -> StLe B δ -> δ.length = ρ.length -> ER S Z δ ρ -> Sn (hid S Z) y d -> g y ρ = some ρ' ->
 (∀ δ', ER S Z δ' ρ' -> StLe B δ' -> δ'.length = ρ'.length -> Q δ' S) -> t d δ S Q
theorem ER.setIm {S : SS} {Z : Addr -> Prop} {δ : StD} {ρ : Ev} {y : T} {d : D} (h : ER S Z δ ρ) (hl : δ.length = ρ.length) (i : Nat) (r : Sn (hid S Z) y d) : ER S Z (δ.set i (some d)) (ρ.set i (some (.im y))) := by
 refine ⟨h.zd, fun j t e => ?_, fun j ts e => ?_⟩
 ·rcases set_get e with ⟨rfl, hl', e⟩ | ⟨n, e⟩
  ·cases e; exact ⟨d, get_set_eq (by rw [hl]; exact hl'), r⟩
  ·rw [get_set_ne n]; exact h.im j t e
 ·rcases set_get e with ⟨rfl, hl', e⟩ | ⟨n, e⟩
  ·cases e
  ·rw [get_set_ne n]; exact h.ow j ts e
variable {pick : List (Option Nat)}
theorem okc_nm (i : Nat) (hi : pick[i]? = some none := by rfl) : OkC pick (nmG i) (hName i) := fun B S Z δ ρ ρ' y d Q hB hs hl hE r e hq => by
 cases e
 refine hq _ (hE.setIm hl i r) ⟨by rw [List.length_set]; exact hs.1, fun j c q => ?_⟩ (by simp [hl])
 by_cases hj : i = j
 ·subst hj; rw [hB i hi] at q; cases q
 ·rw [get_set_ne hj]; exact hs.2 j c q
theorem pickW_get {ρ : Ev} {i : Nat} {w : W} (h : (pickW pick ρ)[i]? = some (some w)) : ∃ j : Nat, pick[i]? = some (some j) /\ ρ[j]? = some (some w) := by
 unfold pickW at h
 rw [List.getElem?_map] at h
 cases q : pick[i]? with
 | none => rw [q] at h; cases h
 | some o =>
  rw [q] at h
  cases o with
  | none => simp at h
  | some j =>
   simp only [Option.map_some, Option.bind_some, Option.some.injEq] at h
   refine ⟨j, rfl, ?_⟩
   cases q2 : ρ[j]? with
   | none => rw [q2] at h; cases h
   | some o2 => rw [q2] at h; simp only [Option.join_some] at h; rw [h]
theorem pickD_of {δ : StD} {i j : Nat} {d : D} (h : pick[i]? = some (some j)) (h' : δ[j]? = some (some d)) : (pickD pick δ)[i]? = some (some d) := by
 unfold pickD
 rw [List.getElem?_map, h]
 simp [h']
theorem ER.pickE {S : SS} {Z : Addr -> Prop} {δ : StD} {ρ : Ev} (h : ER S Z δ ρ) : ER S Z (pickD pick δ) (pickW pick ρ) := by
 refine ⟨h.zd, fun i t e => ?_, fun i ts e => ?_⟩
 ·obtain ⟨j, h1, h2⟩ := pickW_get e
  obtain ⟨d, h3, h4⟩ := h.im j t h2
  exact ⟨d, pickD_of h1 h3, h4⟩
 ·obtain ⟨j, h1, h2⟩ := pickW_get e
  obtain ⟨p, ds, h3, h4⟩ := h.ow j ts h2
  exact ⟨p, ds, pickD_of h1 h3, h4⟩
theorem ER.hide {S S' : SS} {Z : Addr -> Prop} {δ : StD} {ρ : Ev} {p : Addr} (h : ER S Z δ ρ) (s : Sx S S') (hp : S p = none) (hp' : S' p ≠ none) : ER S' (fun a => Z a \/ a = p) δ ρ := by
 refine ⟨fun a z q => ?_, fun i t e => ?_, fun i ts e => ?_⟩
 ·rcases z with z | rfl
  ·exact h.zd a z (s.none q)
  ·exact hp' q
 ·obtain ⟨d, h1, h2⟩ := h.im i t e
  exact ⟨d, h1, Sn.sx (hid_new s hp) t h2⟩
 ·obtain ⟨q, ds, h1, h2, h3, h4⟩ := h.ow i ts e
  exact ⟨q, ds, h1, s _ _ h2, RepC.sx (hid_new s hp) h3, .inl h4⟩
theorem ok_lc {it : Ev -> Option (List T)} {ti : TDI} {g : T -> Ev -> Option Ev} {tg : TDG} {c : Ev -> Option Bool} {tc : TDT} {f : Ev -> Option T} {te : TDE} {b : Bool} (hi : OkI b it ti) (hg : OkC pick g tg) (hc : OkT c tc) (hf : OkE f te) :
  OkF (lcS pick it g c f) (dLW pick ti tg tc te) := fun S Z δ ρ y Q hE e hq => by
 obtain ⟨ts, e1, e2⟩ := Option.bind_eq_some_iff.mp e
 split at e2
 case isFalse => cases e2
 rename_i hlen
 obtain ⟨zs, e3, rfl⟩ := Option.map_eq_some_iff.mp e2
 refine hi S Z δ ρ ts _ hE e1 fun I S1 s1 r1 hk => ⟨by rw [r1.len]; exact hlen, fun S' s' => hk S' ?_, fun p hp => ?_⟩
 ·cases b
  ·exact s'
  ·exact (hid_sx _ _).trans s'
 have E1 := hE.grow s1
 have nz : ¬ Z p := fun z => E1.zd p z hp
 refine ⟨fun i S' acc => ∃ us ws, Sns (hid S' fun a => Z a \/ a = p) us acc /\ compL (lcE pick g c f ρ) (ts.drop i) = some ws /\ zs = us ++ ws, ⟨[], zs, .nil, e3, rfl⟩, fun i S' S'' acc hh ⟨us, ws, h1, h2⟩ => ⟨us, ws, Sns.sx (fun a o q => ?_) us h1, h2⟩, fun i d S2 acc hd s2 hacc ⟨us, ws, h1, h2, h3⟩ => ?_, fun S2 acc s2 hacc ⟨us, ws, h1, h2, h3⟩ => ?_⟩
 ·obtain ⟨q1, q2⟩ := hid_some q
  rw [hid_of q1]
  exact hh a o (fun z => q1 (.inr z)) q2
 ·obtain ⟨x, hx, rx⟩ := r1.getD' hd
  have hlt := (List.getElem?_eq_some_iff.mp hx).1
  have hdt : ts.drop i = x :: ts.drop (i + 1) := by rw [List.drop_eq_getElem_cons hlt, (List.getElem?_eq_some_iff.mp hx).2]
  rw [hdt] at h2
  unfold compL at h2
  obtain ⟨o, o1, h2⟩ := Option.bind_eq_some_iff.mp h2
  obtain ⟨ws', o2, rfl⟩ := Option.map_eq_some_iff.mp h2
  have E2 := (E1.hide s2 hp (by rw [hacc]; nofun)).pickE (pick := pick)
  unfold lcE at o1
  obtain ⟨ρ2, g1, o1⟩ := Option.bind_eq_some_iff.mp o1
  obtain ⟨bb, g2, o1⟩ := Option.bind_eq_some_iff.mp o1
  refine hg (pickD pick δ) S2 _ _ _ ρ2 x d _ (fun j hj => ?_) ⟨rfl, fun _ _ q => q⟩ (by unfold pickD pickW; simp) E2 (Sn.sx (hid_new s2 hp) x rx) g1 fun δ2 E3 l3 _ => ⟨l3, ?_⟩
  ·unfold pickD; rw [List.getElem?_map, hj]; rfl
  refine hc S2 _ δ2 ρ2 bb _ E3 g2 fun S3 s3 => ?_
  split at o1
  ·rename_i hb
   rw [if_pos hb]
   obtain ⟨z, g3, rfl⟩ := Option.map_eq_some_iff.mp o1
   refine hf S3 _ δ2 ρ2 z _ (E3.grow s3) g3 fun dz S4 s4 r4 => ⟨s3.trans s4, us ++ [z], ws', ?_, o2, by rw [h3]; simp⟩
   exact (Sns.sx (hid_mono (s3.trans s4)) us h1).append (.cons r4 .nil)
  ·rename_i hb
   rw [if_neg hb]
   cases o1
   exact ⟨s3, us, ws', Sns.sx (hid_mono s3) us h1, o2, h3⟩
 ·rw [show I.items.length = ts.length from r1.len, List.drop_length] at h2
  cases h2
  rw [List.append_nil] at h3
  subst h3
  refine hq _ S2 (s1.trans s2) ⟨?_, fun vs e => ?_⟩
  ·simp only [Sn]
   exact ⟨acc, .inr ⟨p, rfl, by rw [hid_of nz]; exact hacc⟩, Sns.sx (hid_le fun a z => .inl z) zs h1⟩
  ·cases e
   exact ⟨p, acc, rfl, s1.none hp, hacc, h1⟩
mutual
noncomputable def plainT : T -> Bool
 | .tup ts => plainTs ts
 | .lst _ => false
 | .dic => false
 | _ => true
noncomputable def plainTs : List T -> Bool
 | [] => true
 | t :: ts => plainT t && plainTs ts
end
mutual
theorem plain_sn {S S' : SS} : ∀ (t : T) {d : D}, plainT t = true -> Sn S t d -> Sn S' t d
 | .non, d, _, q => by simpa only [Sn] using q
 | .bl b, d, _, q => by simpa only [Sn] using q
 | .int i, d, _, q => by simpa only [Sn] using q
 | .str x, d, _, q => by simpa only [Sn] using q
 | .tup ts, d, h, q => by
  simp only [Sn] at q ⊢
  obtain ⟨ds, q1, q2⟩ := q
  exact ⟨ds, q1, plain_sns ts (by simpa only [plainT] using h) q2⟩
 | .lst ts, d, h, q => by simp only [plainT] at h; cases h
 | .dic, d, h, q => by simp only [plainT] at h; cases h
theorem plain_sns {S S' : SS} : ∀ (ts : List T) {ds : List D}, plainTs ts = true -> Sns S ts ds -> Sns S' ts ds
 | [], ds, _, q => by simpa only [Sns] using q
 | t :: ts, ds, h, q => by
  simp only [plainTs, Bool.and_eq_true] at h
  simp only [Sns] at q ⊢
  obtain ⟨c, cs, q1, q2, q3⟩ := q
  exact ⟨c, cs, q1, plain_sn t h.1 q2, plain_sns ts h.2 q3⟩
end
theorem plain_lst {y : T} (h : plainT y = true) : ∀ ts, y ≠ .lst ts := fun ts e => by subst e; simp [plainT] at h
class Sr (R : Rk) : Prop extends Lo R where
 sn : ∀ {S S' : SS} {Z : Addr -> Prop} {y : T} {d : D}, R S S' Z y d -> Sn (hid S' Z) y d
instance : Sr RkV := ⟨fun h => h⟩
instance : Sr RkF := ⟨fun h => h.1⟩
def spF (R : Rk) (F : List T -> Option T) : SpD := fun ds S Q => ∃ Z ys y, (∀ a, Z a -> S a ≠ none) /\ Sns (hid S Z) ys ds /\ F ys = some y /\ ∀ d S', Sx S S' -> R S S' Z y d -> Q d S'
theorem spF.mo {R : Rk} {F : List T -> Option T} : MoP (spF R F) := fun _ _ _ _ hq ⟨Z, ys, y, h1, h2, h3, h4⟩ => ⟨Z, ys, y, h1, h2, h3, fun d S' s r => hq _ _ (h4 d S' s r)⟩
@[simp] noncomputable def calP (F : List T -> Option T) (g : Ev -> Option (List T)) : Ev -> Option T := fun ρ => (g ρ).bind fun ys => (F ys).bind fun y => if plainT y = true then some y else none
theorem ok_call {R : Rk} [Lo R] {F : List T -> Option T} {g : Ev -> Option (List T)} {u : TDA} (h : OkAV g u) : OkX R (cbS F g) (dCall (spF R F) u) := fun S Z δ ρ y Q hE e hq => by
 obtain ⟨xs, e1, e2⟩ := Option.bind_eq_some_iff.mp e
 refine h S Z δ ρ xs _ hE e1 fun ds S1 s1 r1 => ?_
 exact ⟨Z, xs, y, (hE.grow s1).zd, r1, e2, fun d S' s r => hq d S' (s1.trans s) (Cl.cl s1 r)⟩
theorem Vws.free {S : SS} {Z Z' : Addr -> Prop} : ∀ {ts : List T} {ds : List D}, Vws S Z ts ds -> (∀ a, Z' a -> Z a) -> (∀ a, D.ref a ∈ ds -> ¬ Z' a) -> Sns (hid S Z') ts ds
 | [], ds, h, _, _ => by cases h; exact .nil
 | t :: ts, ds, h, hz, hn => by
  obtain ⟨c, cs, rfl, h1, h2⟩ := h
  refine .cons ?_ (Vws.free h2 hz fun a ha => hn a (List.mem_cons_of_mem _ ha))
  rcases h1 with h1 | ⟨us, p, es, rfl, rfl, h3, h4, _⟩
  ·exact Sn.sx (hid_le hz) t h1
  ·simp only [Sn]
   exact ⟨es, .inr ⟨p, rfl, by rw [hid_of (hn p List.mem_cons_self)]; exact h3⟩, Sns.sx (hid_le hz) us h4⟩
theorem ok_callP {R : Rk} [Sr R] {F : List T -> Option T} {g : Ev -> Option (List T)} {u : TDA} (h : OkA g u) : OkF (calP F g) (dCall (spF R F) u) := fun S Z δ ρ y Q hE e hq => by
 obtain ⟨xs, e1, e2⟩ := Option.bind_eq_some_iff.mp e
 obtain ⟨y', e4, e3⟩ := Option.bind_eq_some_iff.mp e2
 split at e3
 ·rename_i hp
  obtain rfl : y' = y := by injection e3
  refine h S Z δ ρ xs _ hE e1 fun ds S1 s1 r1 => ?_
  refine ⟨fun a => Z a /\ D.ref a ∉ ds, xs, _, fun a z => (hE.grow s1).zd a z.1, r1.free (fun a z => z.1) (fun a ha z => z.2 ha), e4, fun d S' s r => hq d S' (s1.trans s) ?_⟩
  exact Cl.of (plain_lst hp) (plain_sn _ hp (Sr.sn r))
 ·cases e3
@[simp] noncomputable def startE (N : List Str) (ys : List T) : Ev := ys.map (fun y => some (.im y)) ++ List.replicate (N.length - ys.length) none
@[simp] noncomputable def outB : Option Out -> Option T
 | some (.rt y) => some y
 | some (.nx _) => some .non
 | _ => none
@[simp] noncomputable def runB (N : List Str) (n : Nat) (g : Sm) : List T -> Option T := fun ys => if ys.length = n then outB (g (startE N ys)) else none
theorem spF.len {R : Rk} {N : List Str} {n : Nat} {g : Sm} {ds : List D} {S : SS} {Q : DK} (hs : spF R (runB N n g) ds S Q) : ds.length = n := by
 obtain ⟨Z, ys, y, hz, r, e, hq⟩ := hs
 unfold runB at e
 split at e
 ·rename_i h; rw [r.len]; exact h
 ·cases e
theorem startD_get {N : List Str} {ds : List D} {i : Nat} {d : D} (h : ds[i]? = some d) : (startD N ds)[i]? = some (some d) := by
 have hi := (List.getElem?_eq_some_iff.mp h).1
 unfold startD
 rw [List.getElem?_append_left (by simpa using hi), List.getElem?_map, h]; rfl
theorem startE_get {N : List Str} {ys : List T} {i : Nat} {w : W} (h : (startE N ys)[i]? = some (some w)) : ∃ y, ys[i]? = some y /\ w = .im y := by
 unfold startE at h
 have hi : i < ys.length := by
  rcases Nat.lt_or_ge i ys.length with q | q
  ·exact q
  ·rw [List.getElem?_append_right (by simpa using q), List.getElem?_replicate] at h
   split at h <;> cases h
 rw [List.getElem?_append_left (by simpa using hi), List.getElem?_map] at h
 cases q : ys[i]? with
 | none => rw [q] at h; cases h
 | some y => rw [q] at h; cases h; exact ⟨y, rfl, rfl⟩
theorem body_ok {R : Rk} [Lo R] {N : List Str} {n : Nat} {g : Sm} {t : TDS} (h : OkS R g t) {ds : List D} {S : SS} {Q : DK} (hs : spF R (runB N n g) ds S Q) : t { nx := fun _ S' => Q .non S', rt := Q } (startD N ds) S := by
 obtain ⟨Z, ys, y, hz, r, e, hq⟩ := hs
 unfold runB at e
 split at e
 case isFalse => cases e
 obtain ⟨o, e1, e2⟩ : ∃ o, g (startE N ys) = some o /\ outB (some o) = some y := by
  cases q : g (startE N ys) with
  | none => rw [q] at e; cases e
  | some o => exact ⟨o, rfl, by rw [<- q]; exact e⟩
 refine h S Z S Z _ _ o _ ⟨⟨hz, fun i t e => ?_, fun i ts e => ?_⟩, ?_, .refl S, hz, fun _ z => z, fun _ z => .inl z, fun i ts p e _ => ?_, fun i j ts us p _ e _ _ _ => ?_⟩ e1 ?_
 ·obtain ⟨y', h1, h2⟩ := startE_get e
  cases h2
  obtain ⟨d, h3, h4⟩ := r.getE h1
  exact ⟨d, startD_get h3, h4⟩
 ·obtain ⟨y', h1, h2⟩ := startE_get e
  cases h2
 ·unfold startD startE
  have := r.len
  simp [this]
 ·obtain ⟨y', h1, h2⟩ := startE_get e
  cases h2
 ·obtain ⟨y', h1, h2⟩ := startE_get e
  cases h2
 ·cases o with
  | rt y' => cases e2; exact fun d S' s r => hq d S' s r
  | nx ρ' =>
   cases e2
   exact fun S' Z' δ' F => hq .non S' F.sx (Cl.of (fun _ => nofun) sn_non)
  | bk _ => cases e2
  | ct _ => cases e2
end L5
namespace L5
open PySem L2 L3
noncomputable def valT (kvs : List (Key × T)) (k : Key) : Option T := (kvs.find? fun kv => decide (kv.1 = k)).map (·.2)
section
variable {S : SS}
end
@[simp] noncomputable def dixS (i : Nat) (f : Ev -> Option T) : Ev -> Option T := fun ρ => (f ρ).bind fun y => match ρ[i]?, y with
 | some (some (.own (.dct kvs))), .int k => valT kvs (.inl k)
 | _, _ => none
section
variable {R : Rk} {f g v : Ev -> Option T} {ty tx tv : TDE}
end
@[simp] noncomputable def negS (f : Ev -> Option T) : Ev -> Option T := fun ρ => (f ρ).bind fun x => match x with
 | .int i => some (.int (-i))
 | _ => none
def dNeg (ta : TDE) : TDE := fun δ S Q => ta δ S fun x S1 => match x with
 | .int i => Q (.int (-i)) S1
 | _ => False
theorem ok_neg {f : Ev -> Option T} {te : TDE} (h : OkR f te) : OkF (negS f) (dNeg te) := fun S Z δ ρ y Q hE e hq => by
 obtain ⟨x, e1, e2⟩ := Option.bind_eq_some_iff.mp e
 refine h S Z δ ρ x _ hE e1 fun d S1 s1 r1 => ?_
 split at e2
 ·cases Vw.int r1
  cases e2
  exact hq _ S1 s1 (Cl.of (fun _ => nofun) sn_int)
 ·cases e2
theorem good_min : GoodN RkF minS fMin := good_ii
noncomputable def intsT : List T -> Option (List Int)
 | [] => some []
 | .int i :: ts => (intsT ts).map (i :: ·)
 | _ :: _ => none
noncomputable def rowsT : List T -> Option (List (List Int))
 | [] => some []
 | .tup r :: ts => (intsT r).bind fun x => (rowsT ts).map (x :: ·)
 | _ :: _ => none
noncomputable def rowT (r : List Int) : T := .tup (r.map T.int)
theorem intsT_some : ∀ {ts : List T} {is : List Int}, intsT ts = some is -> ts = is.map T.int
 | [], is, h => by cases h; rfl
 | .int b :: ts, is, h => by
  unfold intsT at h
  obtain ⟨cs, h1, rfl⟩ := Option.map_eq_some_iff.mp h
  rw [List.map_cons, <- intsT_some h1]
 | .non :: ts, bs, h => by cases h
 | .bl _ :: ts, bs, h => by cases h
 | .str _ :: ts, bs, h => by cases h
 | .tup _ :: ts, bs, h => by cases h
 | .lst _ :: ts, bs, h => by cases h
theorem rowsT_some : ∀ {ts : List T} {rs : List (List Int)}, rowsT ts = some rs -> ts = rs.map rowT
 | [], is, h => by cases h; rfl
 | .tup r :: ts, is, h => by
  unfold rowsT at h
  obtain ⟨x, h1, h⟩ := Option.bind_eq_some_iff.mp h
  obtain ⟨cs, h2, rfl⟩ := Option.map_eq_some_iff.mp h
  rw [List.map_cons, <- rowsT_some h2, intsT_some h1]; rfl
 | .non :: ts, bs, h => by cases h
 | .bl _ :: ts, bs, h => by cases h
 | .str _ :: ts, bs, h => by cases h
 | .int _ :: ts, bs, h => by cases h
 | .lst _ :: ts, bs, h => by cases h
theorem intsT_map (is : List Int) : intsT (is.map T.int) = some is := by
 induction is with
 | nil => rfl
 | cons b bs ih => rw [List.map_cons]; unfold intsT; rw [ih]; rfl
theorem rowsT_map (rs : List (List Int)) : rowsT (rs.map rowT) = some rs := by
 induction rs with
 | nil => rfl
 | cons b bs ih =>
  show rowsT (.tup (b.map T.int) :: bs.map rowT) = _
  unfold rowsT; rw [intsT_map, ih]; rfl
theorem sns_ints {S : SS} : ∀ {is : List Int} {ds : List D}, Sns S (is.map T.int) ds ↔ ds = is.map D.int
 | [], ds => by simp only [List.map_nil, Sns]
 | i :: is, ds => by
  rw [List.map_cons]
  simp only [Sns, Sn]
  constructor
  ·rintro ⟨c, cs, rfl, rfl, h⟩
   rw [sns_ints.mp h]; rfl
  ·rintro rfl
   exact ⟨.int i, _, rfl, rfl, sns_ints.mpr rfl⟩
theorem sns_rows {S : SS} : ∀ {rs : List (List Int)} {ds : List D}, Sns S (rs.map rowT) ds ↔ ds = rs.map rowD
 | [], ds => by simp only [List.map_nil, Sns]
 | r :: rs, ds => by
  rw [List.map_cons]
  simp only [Sns, rowT, Sn]
  constructor
  ·rintro ⟨c, cs, rfl, ⟨es, rfl, h1⟩, h⟩
   rw [sns_rows.mp h, sns_ints.mp h1]; rfl
  ·rintro rfl
   exact ⟨rowD r, _, rfl, ⟨_, rfl, sns_ints.mpr rfl⟩, sns_rows.mpr rfl⟩
@[simp] noncomputable def tyT : T -> String
 | .non => "NoneType"
 | .bl _ => "bool"
 | .int _ => "int"
 | .str _ => "str"
 | .tup _ => "tuple"
 | .lst _ => "list"
 | .dic => "dict"
@[simp] noncomputable def instS (ty : String) (f : Ev -> Option T) : Ev -> Option T := fun ρ => (f ρ).map fun x => .bl (isT (tyT x) ty)
theorem ok_inst {ty : String} {f : Ev -> Option T} {te : TDE} (hf : OkR f te) : OkF (instS ty f) (dInst ty te) := fun S Z δ ρ y Q hE e hq => by
 obtain ⟨x, e1, rfl⟩ := Option.map_eq_some_iff.mp e
 refine hf S Z δ ρ x _ hE e1 fun d S1 s1 r1 => ?_
 have key : tyD d S1 = some (tyT x) := by
  cases x with
  | non => cases Vw.non r1; rfl
  | bl _ => cases Vw.bl r1; rfl
  | int _ => cases Vw.int r1; rfl
  | str _ => cases Vw.str r1; rfl
  | tup _ => obtain ⟨ds, rfl, _⟩ := Vw.tup r1; rfl
  | lst _ =>
   obtain ⟨ds, rfl | ⟨a, rfl, h1⟩, h2⟩ := Vw.lst r1
   ·rfl
   ·unfold tyD; dsimp only; rw [h1]; rfl
  | dic =>
   obtain ⟨a, kvs, rfl, h1⟩ := Vw.dic r1
   unfold tyD; dsimp only; rw [h1]; rfl
 rw [key]
 exact hq _ S1 s1 (Cl.of (fun _ => nofun) sn_bl)
end L5
namespace L5
open PySem L2 L3
noncomputable def prT (p : Int × Int) : T := .tup [.int p.1, .int p.2]
noncomputable def scrT (ns : List Int) : T := .lst (ns.map .int)
@[simp] theorem size_line : sizeLine = 16777216 := rfl
theorem atI_natT {α : Type} {xs : List α} {k : Nat} {x : α} (h : xs[k]? = some x) : L2.atI xs (k : Int) = some x := by
 unfold L2.atI L2.ixN
 have hk := (List.getElem?_eq_some_iff.mp h).1
 rw [if_pos (by omega), if_pos (by omega)]
 simpa using h
@[simp] theorem atI_last {α : Type} {xs : List α} {x : α} : L2.atI (xs ++ [x]) (-1) = some x := by
 unfold L2.atI L2.ixN
 rw [if_neg (by omega), if_pos (by simp; omega)]
 have : (-1 + ((xs ++ [x]).length : Int)).toNat = xs.length := by simp; omega
 rw [Option.bind_some, this]
 simp
@[simp] theorem atI_0 {α : Type} {x : α} {xs : List α} : L2.atI (x :: xs) 0 = some x := atI_natT (k := 0) rfl
@[simp] theorem atI_1 {α : Type} {x y : α} {xs : List α} : L2.atI (x :: y :: xs) 1 = some y := atI_natT (k := 1) rfl
@[simp] theorem atI_2 {α : Type} {x y z : α} {xs : List α} : L2.atI (x :: y :: z :: xs) 2 = some z := atI_natT (k := 2) rfl
@[simp] theorem atI_3 {α : Type} {x y z w : α} {xs : List α} : L2.atI (x :: y :: z :: w :: xs) 3 = some w := atI_natT (k := 3) rfl
theorem compL_map {α : Type} (enc : α -> T) (g : α -> Option T) (h : T -> Option (Option T)) : ∀ (xs : List α), (∀ x ∈ xs, h (enc x) = some (g x)) -> compL h (xs.map enc) = some (xs.filterMap g)
 | [], _ => rfl
 | x :: xs, hh => by
  rw [List.map_cons]
  unfold compL
  rw [hh x List.mem_cons_self, compL_map enc g h xs fun y hy => hh y (List.mem_cons_of_mem _ hy)]
  cases q : g x <;> simp [q]
theorem compL_map' {α : Type} (enc : α -> T) (g : α -> T) (h : T -> Option (Option T)) (xs : List α) (hh : ∀ x ∈ xs, h (enc x) = some (some (g x))) : compL h (xs.map enc) = some (xs.map g) := by
 rw [compL_map enc (fun x => some (g x)) h xs hh]
 simp
theorem lc_map {α : Type} (enc : α -> T) (h : α -> T) {pick : List (Option Nat)} {it : Ev -> Option (List T)} {g : T -> Ev -> Option Ev} {c : Ev -> Option Bool} {f : Ev -> Option T} {ρ : Ev} (xs : List α) (hi : it ρ = some (xs.map enc)) (hl : xs.length <= 16777216)
  (hh : ∀ x ∈ xs, lcE pick g c f ρ (enc x) = some (some (h x))) : lcS pick it g c f ρ = some (.lst (xs.map h)) := by
 unfold lcS
 rw [hi, Option.bind_some, if_pos (by rw [List.length_map]; exact hl), compL_map' enc h _ xs hh]; rfl
section
variable {α : Type} {is : List Nat} {g : T -> Ev -> Option Ev} {b : Sm}
noncomputable def turn (g : T -> Ev -> Option Ev) (b : Sm) (y : T) (ρ : Ev) : Option Out := (g y ρ).bind b
theorem loop_cons (y : T) (ys : List T) (ρ : Ev) : loopS is g b (y :: ys) ρ = (turn g b y (frg is ρ)).bind fun o => match o with
  | .nx ρ2 => loopS is g b ys ρ2
  | .ct ρ2 => loopS is g b ys ρ2
  | .bk ρ2 => some (.nx (frg is ρ2))
  | .rt t => some (.rt t) := by
 unfold turn
 rw [loopS]
 cases g y (frg is ρ) <;> rfl
theorem loop_any (enc : α -> T) (test : α -> Bool) (v : T) (ρ0 : Ev) : ∀ (xs : List α) (ρ : Ev), frg is ρ = ρ0 -> (∀ x ∈ xs, ∃ ρ', frg is ρ' = ρ0 /\ turn g b (enc x) ρ0 = some (if test x = true then .rt v else .nx ρ')) -> loopS is g b (xs.map enc) ρ = some (if xs.any test = true then .rt v else .nx ρ0)
 | [], ρ, h, _ => by rw [List.map_nil, loopS, h]; rfl
 | x :: xs, ρ, h, hs => by
  obtain ⟨ρ', h1, h2⟩ := hs x List.mem_cons_self
  rw [List.map_cons, loop_cons, h, h2, List.any_cons]
  cases q : test x with
  | true => simp
  | false =>
   have ih := loop_any enc test v ρ0 xs ρ' h1 fun y hy => hs y (List.mem_cons_of_mem _ hy)
   simpa using ih
theorem loop_inv (enc : α -> T) (I : List α -> Ev -> Prop) : ∀ (xs : List α) (pre : List α) (ρ : Ev), I pre (frg is ρ) ->
  (∀ p x q, pre ++ xs = p ++ x :: q -> ∀ ρ, I p ρ -> ∃ ρ', turn g b (enc x) ρ = some (.nx ρ') /\ I (p ++ [x]) (frg is ρ')) -> ∃ ρ', loopS is g b (xs.map enc) ρ = some (.nx ρ') /\ I (pre ++ xs) ρ'
 | [], pre, ρ, h, _ => ⟨frg is ρ, by rw [List.map_nil, loopS], by simpa using h⟩
 | x :: xs, pre, ρ, h, hs => by
  obtain ⟨ρ', h1, h2⟩ := hs pre x xs rfl _ h
  rw [List.map_cons, loop_cons, h1]
  have ih := loop_inv enc I xs (pre ++ [x]) ρ' h2 fun p y q e => hs p y q (by rw [<- e]; simp)
  simpa using ih
theorem loop_inv0 (enc : α -> T) (I : List α -> Ev -> Prop) (xs : List α) (ρ : Ev) (h : I [] (frg is ρ))
  (hs : ∀ p x q, xs = p ++ x :: q -> ∀ ρ, I p ρ -> ∃ ρ', turn g b (enc x) ρ = some (.nx ρ') /\ I (p ++ [x]) (frg is ρ')) : ∃ ρ', loopS is g b (xs.map enc) ρ = some (.nx ρ') /\ I xs ρ' := loop_inv enc I xs [] ρ h hs
end
theorem rng2_nat (a n : Nat) (h : a <= 100000) (h' : n <= 100000) : rng2 [.int (a : Int), .int (n : Int)] = some ((List.range (n - a)).map fun (k : Nat) => T.int ((a : Int) + (k : Int))) := by
 show (if inR (a : Int) = true /\ inR (n : Int) = true then some (rangeT a ((n : Int) - a).toNat) else none) = _
 rw [if_pos ⟨inR_iff.mpr ⟨by omega, by omega⟩, inR_iff.mpr ⟨by omega, by omega⟩⟩, show ((n : Int) - a).toNat = n - a by omega]
 rfl
noncomputable def row2 (p : Int × Int) : List Int := [p.1, p.2]
noncomputable def sortP (ps : List (Int × Int)) : List (Int × Int) := (L4.sortR (ps.map row2)).map fun r => (r.getD 0 0, r.getD 1 0)
theorem sortP_row (ps : List (Int × Int)) : (sortP ps).map row2 = L4.sortR (ps.map row2) := by
 unfold sortP
 rw [List.map_map]
 conv => rhs; rw [<- List.map_id (L4.sortR (ps.map row2))]
 refine List.map_congr_left fun r hr => ?_
 obtain ⟨p, _, rfl⟩ := List.mem_map.mp ((L4.sortR_perm _).mem_iff.mp hr)
 rfl
theorem sortP_perm (ps : List (Int × Int)) : (sortP ps).Perm ps := by
 have h := L4.sortR_perm (ps.map row2)
 have : (sortP ps).Perm ((ps.map row2).map fun r => (r.getD 0 0, r.getD 1 0)) := h.map _
 rwa [List.map_map, show ((fun r : List Int => (r.getD 0 0, r.getD 1 0)) ∘ row2) = id from rfl, List.map_id] at this
def le2 (p q : Int × Int) : Prop := p.1 < q.1 \/ (p.1 = q.1 /\ p.2 <= q.2)
theorem sortP_sorted (ps : List (Int × Int)) : (sortP ps).Pairwise le2 := by
 have h := L4.sortR_sorted (ps.map row2)
 rw [<- sortP_row, List.pairwise_map] at h
 refine h.imp fun {p q} hpq => ?_
 unfold row2 at hpq
 rw [HT.lexLt_cons, HT.lexLt_cons] at hpq
 unfold le2
 by_cases e : q.1 = p.1
 ·rw [if_pos e] at hpq
  by_cases e2 : q.2 = p.2
  ·omega
  ·rw [if_neg e2] at hpq
   have := of_decide_eq_false hpq
   omega
 ·rw [if_neg e] at hpq
  have := of_decide_eq_false hpq
  omega
theorem rows_pr (ps : List (Int × Int)) : rowsT (ps.map prT) = some (ps.map row2) := by
 have := rowsT_map (ps.map row2)
 rwa [List.map_map, show rowT ∘ row2 = prT from rfl] at this
noncomputable def geP (q p : Int × Int) : Bool := decide (p.1 <= q.1) && decide (p.2 <= q.2)
noncomputable def cov (ps : List (Int × Int)) (q : Int × Int) : Bool := ps.any (geP q)
theorem cov_iff {ps : List (Int × Int)} {q : Int × Int} : cov ps q = true ↔ ∃ p ∈ ps, p.1 <= q.1 /\ p.2 <= q.2 := by
 unfold cov geP
 simp [List.any_eq_true]
theorem cov_perm {ps qs : List (Int × Int)} (h : ps.Perm qs) (q : Int × Int) : cov ps q = cov qs q := by
 rw [Bool.eq_iff_iff, cov_iff, cov_iff]
 exact ⟨fun ⟨p, h1, h2⟩ => ⟨p, h.mem_iff.mp h1, h2⟩, fun ⟨p, h1, h2⟩ => ⟨p, h.mem_iff.mpr h1, h2⟩⟩
theorem cov_append (ps qs : List (Int × Int)) (q : Int × Int) : cov (ps ++ qs) q = (cov ps q || cov qs q) := by
 unfold cov; rw [List.any_append]
def IsB (ps : List (Int × Int)) : Prop := ps.Pairwise fun p q => p.1 < q.1 /\ q.2 < p.2
theorem IsB.eq : ∀ {ps qs : List (Int × Int)}, IsB ps -> IsB qs -> (∀ q, cov ps q = cov qs q) -> ps = qs
 | [], [], _, _, _ => rfl
 | [], q :: qs, _, _, h => by
  have := h q
  rw [show cov [] q = false from rfl] at this
  have h2 : cov (q :: qs) q = true := cov_iff.mpr ⟨q, List.mem_cons_self, Int.le_refl _, Int.le_refl _⟩
  rw [h2] at this; cases this
 | p :: ps, [], _, _, h => by
  have := h p
  rw [show cov [] p = false from rfl] at this
  have h2 : cov (p :: ps) p = true := cov_iff.mpr ⟨p, List.mem_cons_self, Int.le_refl _, Int.le_refl _⟩
  rw [h2] at this; cases this
 | p :: ps, q :: qs, hp, hq, h => by
  have hp1 := List.pairwise_cons.mp hp
  have hq1 := List.pairwise_cons.mp hq
  -- each is at or above one of the other
  have a1 : ∃ r ∈ q :: qs, r.1 <= p.1 /\ r.2 <= p.2 := cov_iff.mp (by rw [<- h]; exact cov_iff.mpr ⟨p, List.mem_cons_self, Int.le_refl _, Int.le_refl _⟩)
  have a2 : ∃ r ∈ p :: ps, r.1 <= q.1 /\ r.2 <= q.2 := cov_iff.mp (by rw [h]; exact cov_iff.mpr ⟨q, List.mem_cons_self, Int.le_refl _, Int.le_refl _⟩)
  obtain ⟨r, hr, r1, r2⟩ := a1
  obtain ⟨u, hu, u1, u2⟩ := a2
  have qr : q.1 <= r.1 := by
   rcases List.mem_cons.mp hr with e | e
   ·subst e; exact Int.le_refl _
   ·exact Int.le_of_lt (hq1.1 r e).1
  have pu : p.1 <= u.1 := by
   rcases List.mem_cons.mp hu with e | e
   ·subst e; exact Int.le_refl _
   ·exact Int.le_of_lt (hp1.1 u e).1
  have e1 : p.1 = q.1 := by omega
  have er : r = q := by
   rcases List.mem_cons.mp hr with e | e
   ·exact e
   ·have := (hq1.1 r e).1; omega
  have eu : u = p := by
   rcases List.mem_cons.mp hu with e | e
   ·exact e
   ·have := (hp1.1 u e).1; omega
  subst er eu
  have e2 : u.2 = r.2 := by omega
  have epq : u = r := Prod.ext e1 e2
  subst epq
  rw [IsB.eq hp1.2 hq1.2 fun x => ?_]
  have hx := h x
  unfold cov at hx ⊢
  rw [List.any_cons, List.any_cons] at hx
  cases g : geP x u with
  | false => rw [g] at hx; simpa using hx
  | true =>
   -- then take the second number just below
   have gx : u.1 <= x.1 /\ u.2 <= x.2 := by simpa [geP] using g
   have key : ∀ {l : List (Int × Int)}, (∀ v ∈ l, u.1 < v.1 /\ v.2 < u.2) -> l.any (geP x) = l.any (geP (x.1, u.2 - 1)) := by
    intro l hl
    rw [Bool.eq_iff_iff, List.any_eq_true, List.any_eq_true]
    constructor
    ·rintro ⟨v, hv, hg⟩
     have := hl v hv
     have hg' : v.1 <= x.1 /\ v.2 <= x.2 := by simpa [geP] using hg
     exact ⟨v, hv, by simp [geP]; omega⟩
    ·rintro ⟨v, hv, hg⟩
     have := hl v hv
     have hg' : v.1 <= x.1 /\ v.2 <= u.2 - 1 := by simpa [geP] using hg
     exact ⟨v, hv, by simp [geP]; omega⟩
   rw [key hp1.1, key hq1.1]
   have hy := h (x.1, u.2 - 1)
   unfold cov at hy
   rw [List.any_cons, List.any_cons] at hy
   have gn : geP (x.1, u.2 - 1) u = false := by
    unfold geP
    rw [show decide (u.2 <= (x.1, u.2 - 1).2) = false from decide_eq_false (by show ¬ u.2 <= u.2 - 1; omega), Bool.and_false]
   rw [gn] at hy
   simpa using hy
noncomputable def bel (l : Option Int) (x : Int) : Bool := match l with
 | none => true
 | some m => decide (x < m)
noncomputable def grd : List (Int × Int) -> Option Int -> List (Int × Int)
 | [], _ => []
 | p :: ps, l => if bel l p.2 = true then p :: grd ps (some p.2) else grd ps l
noncomputable def leastP (ps : List (Int × Int)) : List (Int × Int) := grd (sortP ps) none
theorem grd_len : ∀ (ps : List (Int × Int)) (l : Option Int), (grd ps l).length <= ps.length
 | [], l => by simp [grd]
 | p :: ps, l => by
  unfold grd
  split
  ·simpa using grd_len ps _
  ·exact Nat.le_succ_of_le (grd_len ps _)
theorem grd_mem : ∀ (ps : List (Int × Int)) (l : Option Int) (q : Int × Int), q ∈ grd ps l -> q ∈ ps /\ ∀ m, l = some m -> q.2 < m
 | [], l, q, h => by simp [grd] at h
 | p :: ps, l, q, h => by
  unfold grd at h
  split at h
  ·rename_i c
   have hm : ∀ m, l = some m -> p.2 < m := fun m e => by subst e; simpa [bel] using c
   rcases List.mem_cons.mp h with e | e
   ·subst e; exact ⟨List.mem_cons_self, hm⟩
   ·obtain ⟨h1, h2⟩ := grd_mem ps _ q e
    exact ⟨List.mem_cons_of_mem _ h1, fun m e => by have := h2 _ rfl; have := hm m e; omega⟩
  ·obtain ⟨h1, h2⟩ := grd_mem ps _ q h
   exact ⟨List.mem_cons_of_mem _ h1, h2⟩
theorem grd_isB : ∀ (ps : List (Int × Int)) (l : Option Int), ps.Pairwise le2 -> IsB (grd ps l)
 | [], l, _ => by simp [grd, IsB]
 | p :: ps, l, h => by
  have h1 := List.pairwise_cons.mp h
  unfold grd
  split
  ·refine List.pairwise_cons.mpr ⟨fun q hq => ?_, grd_isB ps _ h1.2⟩
   obtain ⟨g1, g2⟩ := grd_mem ps _ q hq
   have := h1.1 q g1
   have := g2 _ rfl
   unfold le2 at *
   omega
  ·exact grd_isB ps _ h1.2
theorem grd_cov : ∀ (ps : List (Int × Int)) (l : Option Int), ps.Pairwise le2 -> ∀ p ∈ ps, (∃ q ∈ grd ps l, q.1 <= p.1 /\ q.2 <= p.2) \/ ∃ m, l = some m /\ m <= p.2
 | [], l, _, p, hp => by cases hp
 | r :: ps, l, h, p, hp => by
  have h1 := List.pairwise_cons.mp h
  unfold grd
  split
  ·rename_i c
   rcases List.mem_cons.mp hp with e | e
   ·subst e; exact .inl ⟨p, List.mem_cons_self, Int.le_refl _, Int.le_refl _⟩
   ·rcases grd_cov ps (some r.2) h1.2 p e with ⟨q, q1, q2⟩ | ⟨m, e1, e2⟩
    ·exact .inl ⟨q, List.mem_cons_of_mem _ q1, q2⟩
    ·cases e1
     have := h1.1 p e
     unfold le2 at this
     exact .inl ⟨r, List.mem_cons_self, by omega, e2⟩
  ·rename_i c
   rcases List.mem_cons.mp hp with e | e
   ·subst e
    cases l with
    | none => simp [bel] at c
    | some m => exact .inr ⟨m, rfl, by simpa [bel] using c⟩
   ·exact grd_cov ps l h1.2 p e
theorem leastP_isB (ps : List (Int × Int)) : IsB (leastP ps) := grd_isB _ _ (sortP_sorted ps)
theorem leastP_len (ps : List (Int × Int)) : (leastP ps).length <= ps.length := by
 have := grd_len (sortP ps) none
 rwa [(sortP_perm ps).length_eq] at this
theorem leastP_mem {ps : List (Int × Int)} {q : Int × Int} (h : q ∈ leastP ps) : q ∈ ps := (sortP_perm ps).mem_iff.mp (grd_mem _ _ q h).1
theorem leastP_cov (ps : List (Int × Int)) (q : Int × Int) : cov (leastP ps) q = cov ps q := by
 rw [<- cov_perm (sortP_perm ps) q, Bool.eq_iff_iff, cov_iff, cov_iff]
 constructor
 ·rintro ⟨p, h1, h2⟩
  exact ⟨p, (grd_mem _ _ p h1).1, h2⟩
 ·rintro ⟨p, h1, h2⟩
  rcases grd_cov (sortP ps) none (sortP_sorted ps) p h1 with ⟨r, r1, r2⟩ | ⟨m, e, _⟩
  ·exact ⟨r, r1, by omega, by omega⟩
  ·cases e
end L5
namespace L2
open PySem PySem.Spec PyProof.Rows
section
variable {X : Cx}
def rCatL (K : PySem.W.Frag) : R2 := fun x y H Q => ∃ l b xs zs, x = .ref l /\ y = .ref b /\ SqL K H l xs /\ SqL K H b zs /\ xs.length + zs.length <= sizeLine /\ ∀ p, H p = none -> Q (.ref p) (upd H p (.lst (xs ++ zs)))
theorem op_catL : OpR X (binaryOp .Add) (rCatL X.K) := by
 intro pins s σ H x y v u Q I rx ry h
 obtain ⟨l, b, xs, zs, rfl, rfl, hH, hB, hz, q⟩ := h
 cases rx
 cases ry
 obtain ⟨its, r, p1, _⟩ := I.list hH
 obtain ⟨its2, r2, p2, _⟩ := I.list hB
 obtain ⟨⟨cls, dd, data, sl⟩, ho, hc, n, hd⟩ := p1.isList
 obtain ⟨⟨cls2, dd2, data2, sl2⟩, ho2, hc2, n2, hd2⟩ := p2.isList
 simp only at hc hd hc2 hd2
 subst hc hd hc2 hd2
 have e : its.toArray ++ its2.toArray = (its ++ its2).toArray := by simp
 refine concat_meets ⟨_, ho, rfl⟩ ⟨_, ho2, rfl⟩ noFill_list_add seq_list_add PySem.F.slot_list_add PySem.F.entry_list_add (PySem.F.args_list_add_2 _ _) (list_addW l b its.toArray its2.toArray n n2 dd dd2 sl sl2 (by rw [List.size_toArray, List.size_toArray, <- r.length, <- r2.length]; exact hz)) ⟨ho, ho2, ?_⟩
 rw [e]
 exact ⟨.ref _, _, I.lnew (t' := s.toks) (r.append r2) (by rw [List.length_append]; omega), rfl, q _ I.fresh⟩
def rCatT0 (K : PySem.W.Frag) : R2 := fun x y H Q => ∃ a b ys, x = .ref a /\ y = .ref b /\ SqT K H a [] /\ SqT K H b ys /\ Q (.ref b) H
theorem op_catT0 : OpR X (binaryOp .Add) (rCatT0 X.K) := by
 intro pins s σ H x y v u Q I rx ry h
 obtain ⟨l, b, ys, rfl, rfl, hH, hB, q⟩ := h
 cases rx
 cases ry
 obtain ⟨its, r, p1, _⟩ := I.tuple hH
 obtain ⟨its2, r2, p2, _⟩ := I.tuple hB
 obtain ⟨⟨cls, dd, data, sl⟩, ho, hc, n, hd⟩ := id p1
 obtain ⟨⟨cls2, dd2, data2, sl2⟩, ho2, hc2, n2, hd2⟩ := id p2
 simp only at hc hd hc2 hd2
 subst hc hd hc2 hd2
 exact concat_meets ⟨_, ho, rfl⟩ ⟨_, ho2, rfl⟩ noFill_tuple_add seq_tuple_add PySem.F.slot_tuple_add PySem.F.entry_tuple_add (PySem.F.args_tuple_add_2 _ _)
   (tuple_addW0 l b its.toArray its2.toArray n n2 dd dd2 sl sl2 (by cases r; rfl)) ⟨ho, ho2, ⟨.ref b, H, I, rfl, q⟩⟩
end
end L2
namespace L5
open PySem PySem.Spec L2 L3
open PyProof.Rows hiding St
section
variable {X : Cx} {K : PySem.W.Frag} {a b c e : Expr} {es : List Expr} {ta tb tc te : TDE} {tA : TDA} {pos p : Pos}
theorem fAddV.mo : MoR fAddV := fun x y S Q Q' hq h => by
 cases x with
 | non => exact h
 | bl _ => exact h
 | int i => cases y <;> first | exact hq _ _ h | exact h
 | str i => cases y <;> first | exact ⟨h.1, hq _ _ h.2⟩ | exact h
 | tup i => cases y <;> first | exact ⟨h.1, hq _ _ h.2⟩ | exact h
 | rol ds =>
  unfold fAddV at h ⊢
  dsimp only at h ⊢
  split at h
  ·exact ⟨h.1, h.2.1, fun r hr => hq _ _ (h.2.2 r hr)⟩
  ·exact h.elim
 | ref q =>
  unfold fAddV at h ⊢
  dsimp only at h ⊢
  split at h
  ·exact ⟨h.1, h.2.1, fun r hr => hq _ _ (h.2.2 r hr)⟩
  ·exact h.elim
theorem seq_sqL {H : Hp} {S : SS} {d : D} {v : V} {ds : List D} (r : RepD K H d v) (p : RepH K H S) (e : seqOf d S = some ds) (n : ∀ ts, d ≠ .tup ts) : ∃ a xs, v = .ref a /\ SqL K H a xs /\ RepDs K H ds xs := by
 unfold seqOf at e
 split at e
 ·exact absurd rfl (n _)
 ·cases e
  simp only [RepD] at r
  obtain ⟨a, xs, h1, h2, h3⟩ := r
  exact ⟨a, xs, h1, h2.sq, h3⟩
 ·split at e
  ·rename_i q
   cases e
   simp only [RepD] at r
   subst r
   obtain ⟨xs, h1, h2⟩ := p _ _ q
   exact ⟨_, xs, rfl, SqL.of h1, h2⟩
  ·cases e
 ·cases e
abbrev rAddV (K : PySem.W.Frag) : R2 := fun x y H Q => rI0 (fun i j => .int (i + j)) x y H Q \/ ((∃ i j, x = .str i /\ y = .str j /\ i.length + j.length <= sizeLine /\ Q (.str (i ++ j)) H) \/ (rCatL K x y H Q \/ (rCatT0 K x y H Q \/ rCatT K x y H Q)))
theorem fAddV.fits : Fits2 K fAddV (rAddV K) := fun x y d e H S Q h1 h2 h3 h => by
 have lst : (∀ ts, d ≠ .tup ts) -> (match seqOf d S, seqOf e S with
  | some ds, some es => (∀ ts, e ≠ .tup ts) /\ ds.length + es.length <= sizeLine /\ ∀ r, S r = none -> dnK K H Q (.ref r) (ups S r (.lst (ds ++ es)))
  | _, _ => False) -> rAddV K x y H Q := fun n h => by
  split at h
  ·rename_i ds es q1 q2
   obtain ⟨a, xs, rfl, g1, g2⟩ := seq_sqL h1 h3 q1 n
   obtain ⟨b, ys, rfl, g3, g4⟩ := seq_sqL h2 h3 q2 h.1
   refine .inr (.inr (.inl ⟨a, b, xs, ys, rfl, rfl, g1, g3, by rw [<- g2.length, <- g4.length]; exact h.2.1, fun p hp => ?_⟩))
   exact h.2.2 p (h3.none hp) _ _ (by simp only [RepD]) (.new hp _) (h3.ups (.new hp _) ⟨_, upd_same, RepDs.ext (.new hp _) _ (g2.append g4)⟩)
  ·exact h.elim
 cases d with
 | non => exact h.elim
 | bl _ => exact h.elim
 | int i =>
  cases e with
  | int j =>
   simp only [RepD] at h1 h2
   exact .inl ⟨_, _, h1, h2, h _ H (by simp only [RepD]) (.refl H) h3⟩
  | non => exact h.elim
  | bl _ => exact h.elim
  | str _ => exact h.elim
  | tup _ => exact h.elim
  | rol _ => exact h.elim
  | ref _ => exact h.elim
 | str i =>
  cases e with
  | str j =>
   simp only [RepD] at h1 h2
   exact .inr (.inl ⟨_, _, h1, h2, h.1, h.2 _ H (by simp only [RepD]) (.refl H) h3⟩)
  | non => exact h.elim
  | bl _ => exact h.elim
  | int _ => exact h.elim
  | tup _ => exact h.elim
  | rol _ => exact h.elim
  | ref _ => exact h.elim
 | tup ds =>
  cases e with
  | tup es =>
   have h1' := h1
   have h2' := h2
   simp only [RepD] at h1 h2
   obtain ⟨a, xs, rfl, g1, g2⟩ := h1
   obtain ⟨b, ys, rfl, g3, g4⟩ := h2
   have hl := g2.length
   have hl' := g4.length
   by_cases hx : xs = []
   ·subst hx
    have : ds = [] := by cases ds <;> simp_all
    subst this
    exact .inr (.inr (.inr (.inl ⟨a, b, ys, rfl, rfl, g1, g3, h.2 _ H h2' (.refl H) h3⟩)))
   ·refine .inr (.inr (.inr (.inr ⟨a, b, xs, ys, rfl, rfl, g1, g3, hx, by rw [<- hl, <- hl']; exact h.1, fun hy => ?_, fun hy p hp => ?_⟩)))
    ·subst hy
     have : es = [] := by cases es <;> simp_all
     subst this
     refine h.2 _ H ?_ (.refl H) h3
     rw [List.append_nil]; exact h1'
    ·refine h.2 _ _ ?_ (.new hp _) (h3.new hp)
     simp only [RepD]
     exact ⟨p, _, rfl, SqT.of upd_same, RepDs.ext (.new hp _) _ (g2.append g4)⟩
  | non => exact h.elim
  | bl _ => exact h.elim
  | int _ => exact h.elim
  | str _ => exact h.elim
  | rol _ => exact h.elim
  | ref _ => exact h.elim
 | rol ds => exact lst (fun _ => nofun) h
 | ref q => exact lst (fun _ => nofun) h
theorem pd_addV (ha : PD X a ta) (hb : PD X b tb) : PD X (.BinOp a .Add b pos) (dOp fAddV ta tb) := pd_op (op_add.or (op_add_str.or (op_catL.or (op_catT0.or op_catT)))) fAddV.fits fAddV.mo ha hb
theorem fBsV.mo {g : List Bool -> Bool} : MoN (fBsV g) := fun ds S Q Q' hq h => by
 unfold fBsV at h ⊢
 split at h
 ·exact h.elim
 ·obtain ⟨bs, h1, h2⟩ := h
  exact ⟨bs, h1, hq _ _ h2⟩
 ·exact h.elim
theorem fBsV.fits {g : List Bool -> Bool} : FitsN K (fBsV g) (fun xs H Q => ∃ p, ∃ bs : List Bool, xs = [.ref p] /\ SqL K H p (bs.map V.bl) /\ Q (.bl (g bs)) H) := fun xs ds H S Q h0 h2 h => by
 unfold fBsV at h
 split at h
 ·exact h.elim
 ·rename_i d hn
  obtain ⟨x, hx, h1⟩ := h0.one; subst hx
  obtain ⟨bs, e, h⟩ := h
  obtain ⟨a, ys, rfl, g1, g2⟩ := seq_sqL h1 h2 e (fun ts z => hn ts z)
  rw [g2.bools] at g1
  exact ⟨a, bs, rfl, g1, h _ H (by simp only [RepD]) (.refl H) h2⟩
 ·exact h.elim
theorem pd_allV (hm : X.mg "all" = none) (ha : PDA X (e :: es) tA) (hc : X.calm = true := by rfl) (hg : Gl X "all" := by rfl) (he : starEach (e :: es) X.env = (false, eval e X.env) :: starEach es X.env := by rfl) (hpl : (backTo pos (starEach es X.env)).any (·.1) = false := by rfl) : PD X (.Call (.Name "all" p) (e :: es) [] pos) (dCB (fBsV fun bs => bs.all id) tA) :=
 pd_of_callB (pe_callB (call_allB hc) hg hm boot_all ha.pa (by decide) (by decide) he hpl) fBsV.mo fBsV.fits ha.mo
theorem pd_neg (ha : PD X a ta) : PD X (.UnaryOp .USub a pos) (dNeg ta) := by
 refine ⟨fun δ S Q Q' hq h => ha.mo δ S _ _ (fun x S1 z => by
  cases x <;> first
   | exact hq _ _ z
   | exact z) h, PE.imp (pe_un un_neg ha.pe) fun σ H Q hu => ?_⟩
 obtain ⟨δ, S, r1, r2, h⟩ := hu
 refine upE.go ha.mo r1 r2 h fun x S1 v H1 h1 q1 e1 p1 => ?_
 cases x with
 | int i => simp only [RepD] at q1; exact ⟨i, q1, h1 _ H1 (by simp only [RepD]) e1 p1⟩
 | non => exact h1.elim
 | bl _ => exact h1.elim
 | str _ => exact h1.elim
 | tup _ => exact h1.elim
 | rol _ => exact h1.elim
 | ref _ => exact h1.elim
section
variable {N' : List Str} {pick : List (Option Nat)} {scope : Scope} {tg elt iter : Expr} {ifs : List Expr} {ti : TDI} {g : TDG} {tcc : TDT}
theorem dLW.mo (hi : MoI ti) : MoE (dLW pick ti g tcc te) := fun δ S Q Q' hq z => hi δ S _ _ (fun I S1 ⟨h1, h2, h3⟩ => ⟨h1, h2, fun p hp => by
 obtain ⟨W, w0, w1, w2, w3⟩ := h3 p hp
 exact ⟨W, w0, w1, w2, fun S2 acc a b c => hq _ _ (w3 S2 acc a b c)⟩⟩) z
theorem upLW (hi : MoI ti) (hg : MoG g) (hc : MoT tcc) (he : MoE te) {σ : St} {H : Hp} {Q : VK} (hu : upE K (dLW pick ti g tcc te) σ H Q) : tLC pick (upI K ti) (upG K g) (upT K tcc) (upE K te) σ H Q := by
 obtain ⟨δ, S, r1, r2, z⟩ := hu
 refine ⟨δ, S, r1, r2, hi δ S _ _ (fun I S1 hF J H1 e1 p1 rep D hD => ?_) z⟩
 obtain ⟨hlen, hk, hF⟩ := hF
 have hS1 : S1 D = none := p1.none hD
 obtain ⟨W, w0, wm, wstep, wfin⟩ := hF D hS1
 refine ⟨fun i m σ H2 => m = I.items.length - i /\ i <= I.items.length /\ Ext H1 H2 /\ RepSt K H2 (pickD pick δ) σ /\ ∃ S2 acc, RepH K H2 S2 /\ Sx S1 S2 /\ S2 D = some (.lst acc) /\ acc.length <= i /\ W i S2 acc, ⟨_, rfl, Nat.zero_le _, .new hD _, ((r1.ext e1).pick pick).ext (.new hD _), ups S1 D (.lst []), [], ?_, .new hS1 _, ups_same, Nat.le_refl _, ?_⟩, ?_⟩
 ·exact p1.ups (.new hD _) ⟨[], upd_same, .nil⟩
 ·exact wm 0 S1 _ [] (fun b o hb q => by rw [ups_ne hb]; exact q) w0
 rintro i m σ2 H2 ⟨rfl, hi', x2, q1, S2, acc, q2, sx, hS2, hacc, hW⟩
 obtain ⟨g1, g2⟩ := rep i H2 S2 x2 q2 (hk S2 sx)
 by_cases hl : i < I.items.length
 ·have hd : I.items[i]? = some I.items[i] := by simp [hl]
  obtain ⟨go, yl⟩ := g1 _ hd
  refine .inr ⟨go, fun x H3 hy => ?_⟩
  obtain ⟨x3, p3, d3⟩ := yl x H3 hy
  refine ⟨_, _, S2, d3, q1.ext x3, p3, hg _ _ S2 _ _ (fun δ4 S4 z4 σ4 H4 a1 a2 a3 => ?_) (wstep i _ S2 acc hd sx hS2 hW)⟩
  obtain ⟨hle, z4⟩ := z4
  refine upT.go hc a1 a3 z4 fun b S5 H5 z5 x5 p5 => ite_imp (fun z5 => ?_) (fun z5 => ?_) z5
  ·refine upE.go he (a1.ext x5) p5 z5 fun y S6 v H6 z6 q6 x6 p6 => ?_
   obtain ⟨s6, hW6⟩ := z6
   obtain ⟨ys, h6, r6⟩ := p6 _ _ (s6 _ _ hS2)
   have e6 : Ext H6 (upd H6 D (.lst (ys ++ [v]))) := .lst h6 _
   have hlen2 : ys.length <= i := by rw [<- r6.length]; exact hacc
   refine ⟨ys, I.items.length - (i + 1), h6, by omega, by omega, rfl, hl, ((((x2.trans x3).trans a2).trans x5).trans x6).trans e6, hle.rep ((a1.ext (x5.trans x6)).ext e6), ups S6 D (.lst (acc ++ [y])), acc ++ [y], ?_, fun b o hb => ?_, ups_same, by simp; omega, ?_⟩
   ·exact p6.ups e6 ⟨_, upd_same, RepDs.ext e6 _ (r6.snoc q6)⟩
   ·rw [ups_ne (by intro q; subst q; rw [hS1] at hb; cases hb)]
    exact s6 _ _ (sx _ _ hb)
   ·exact wm _ S6 _ _ (fun b o hb q => by rw [ups_ne hb]; exact q) hW6
  ·obtain ⟨s5, hW5⟩ := z5
   exact ⟨I.items.length - (i + 1), by omega, rfl, hl, ((x2.trans x3).trans a2).trans x5, hle.rep (a1.ext x5), S5, acc, p5, sx.trans s5, s5 _ _ hS2, by omega, hW5⟩
 ·have e : i = I.items.length := by omega
  subst e
  exact .inl ⟨g2 (Nat.le_refl _), wfin S2 acc sx hS2 hW _ H2 (by simp only [RepD]) (e1.trans x2) q2⟩
theorem pd_lw (Sc : CScope X N' pick scope) (hc : X.calm = true) (hi : PDI X tg iter ti) (hg : ∀ cl C s H fp, PDG (cxC X N' scope cl C s H fp) tg g) (hf : ∀ cl C s H fp, PDF (cxC X N' scope cl C s H fp) ifs tcc) (he : ∀ cl C s H fp, PD (cxC X N' scope cl C s H fp) elt te)
  (hs : ∀ x, foldedSetIterable iter X.env x = pure x := by intro _; rfl) :
  PD X (.ListComp elt [⟨tg, iter, ifs, 0⟩] scope pos) (dLW pick ti g tcc te) :=
 ⟨dLW.mo hi.mo, fun pins s σ H Q I hu => pe_lc (g := upG X.K g) (tc := upT X.K tcc) (te := upE X.K te) Sc hc hi.pi (fun cl C s H fp => (hg cl C s H fp).pg) (fun cl C s H fp => (hf cl C s H fp).pf) (fun cl C s H fp => (he cl C s H fp).pe) hs pins s σ H Q I (upLW hi.mo (hg [] 0 s H []).mo (hf [] 0 s H []).mo (he [] 0 s H []).mo hu)⟩
end
end
section
variable {P : Program} {w : World} {K : PySem.W.Frag} {mg : Str -> Option Value} {base : Heap} {f : Addr} {fd : FuncData}
theorem fn5 {R : Rk} [Lo R] {x : Str} {st : Stmt} {N ps : List Str} {k n : Nat} {g : Sm} (F : Fun K x x st f fd) (Sc : FnScope N ps (defScope st)) (hn : n = ps.length)
  (hbody : ∀ (cdv : Value) (A : Around) (outer : List Env) (s : Shared) (H : Hp) (E : XK), Room k (A.deeper (envOfC x (defScope st) s.heap.objs.size f cdv)) ->
   ∃ t, PDSs (cxOf CX0 P w K mg base N x (defScope st) f cdv A outer s H E).nox (defBody st) t /\ OkS R g t) : FnOk P w K mg base CX0 (k + 1) f fd ps (upP K (spF R (runB N n g))) :=
 fun_ok F Sc (fun ds S Q h => by rw [h.len, hn]) fun cdv A outer s H E hr => by
  obtain ⟨t, h1, h2⟩ := hbody cdv A outer s H E hr
  exact ⟨t, h1, fun ds S Q h => body_ok h2 h⟩
theorem fd5 {R : Rk} [Lo R] {x : Str} {st : Stmt} {N ps : List Str} {k n : Nat} {g : Sm} (F : Fun K x x st f fd) (hm : mg x = some (.ref f)) (Sc : FnScope N ps (defScope st)) (hn : n = ps.length)
  (hb : ∀ (kV doc pm : Value) (an : Option Addr) (cdv ct : Value) (us : List Value), us.length = ps.length -> bindArgs (PySem.W.fnOf x x (defArgs st) (defBody st) (defScope st) .none kV doc pm an cdv ct) ⟨us, []⟩ = pure (ps.zip us))
  (hbody : ∀ (cdv : Value) (A : Around) (outer : List Env) (s : Shared) (H : Hp) (E : XK), Room k (A.deeper (envOfC x (defScope st) s.heap.objs.size f cdv)) ->
   ∃ t, PDSs (cxOf CX0 P w K mg base N x (defScope st) f cdv A outer s H E).nox (defBody st) t /\ OkS R g t) : FD P w K mg base x (k + 1) ps (spF R (runB N n g)) :=
 ⟨⟨f, fd, fn5 F Sc hn hbody, hm, F.kp, F.binds hb⟩, spF.mo⟩
theorem law5 {R : Rk} [Sr R] {F : List T -> Option T} (hF : ∀ ns : List Int, ns.length <= 63 -> F [.lst (ns.map T.int)] = some (.bl true)) {H : Hp} {a : Addr} {ns : List Int} {E : XK} (hO : Only H) (hS : SqL K H a (ns.map V.int)) (hl : ns.length <= 63) : upP K (spF R F) [.ref a] H (fun v _ => v = .bl true) E := by
 have hFz : SqF K H a (ns.map V.int) := by
  rcases hS with (h | h) | h
  ·rcases hO a with z | ⟨o, xs, z⟩
   ·rw [h] at z; cases z
   ·rw [h] at z; cases z
  ·exact .inl h
  ·exact .inr h
 refine ⟨[.rol (ns.map D.int)], fun _ => none, .cons ?_ .nil, (fun a o z => nomatch z), fun _ => False, [.lst (ns.map T.int)], .bl true, nofun, .cons ?_ .nil, hF ns hl, fun d S' s r v H' rv _ _ => ?_⟩
 ·simp only [RepD]
  exact ⟨a, _, rfl, hFz, RepDs.of_ints ns⟩
 ·simp only [Sn]
  exact ⟨_, .inl rfl, sns_ints.mpr rfl⟩
 ·have := Sr.sn r
  simp only [Sn] at this
  subst this
  simpa only [RepD] using rv
end
end L5
namespace ST
open PySem PySem.Spec PyProof.Rows L2
theorem Paired.mk {α β : Type} {F : α -> β -> Prop} : ∀ {l : List α} {m : List β}, l.length = m.length -> (∀ (i : Nat) a b, l[i]? = some a -> m[i]? = some b -> F a b) -> Paired F l m
 | [], [], _, _ => .nil
 | a :: l, b :: m, h, f => .cons (f 0 a b rfl rfl) (Paired.mk (by simpa using h) fun i x y hx hy => f (i + 1) x y (by simpa using hx) (by simpa using hy))
 | [], _ :: _, h, _ => by simp at h
 | _ :: _, [], h, _ => by simp at h
end ST
namespace L5
open PySem PySem.Spec L2 L3
open PyProof.Rows hiding St
structure Bq (mg : Str -> Option Value) : Prop where
 set : mg "set" = none
 zip : mg "zip" = none
 enumerate : mg "enumerate" = none
section
variable {X : Cx} {K : PySem.W.Frag} {a b c e : Expr} {es : List Expr} {ta tb tc te : TDE} {tA : TDA} {pos p : Pos} {fa fb fc : Ev -> Option T}
end
end L5
namespace L2
open PySem PySem.Spec PyProof.Rows
section
variable {X : Cx}
end
end L2
namespace L5
open PySem PySem.Spec L2 L3
open PyProof.Rows hiding St
section
variable {X : Cx} {K : PySem.W.Frag} {a b c e o i v : Expr} {es : List Expr} {ta tb tc te td ty tv : TDE} {tA : TDA} {pos p pos' : Pos} {fa fb fc : Ev -> Option T}
def fLtV : RD2 := fun x y S Q => match x, y with
 | .int i, .int j => Q (.bl (decide (i < j))) S
 | .tup ds, .tup es => ∃ ns ms : List Int, ds = ns.map D.int /\ es = ms.map D.int /\ Q (.bl (HT.lexLt ns ms)) S
 | _, _ => False
noncomputable def ltS : T -> T -> Option T
 | .int i, .int j => some (.bl (decide (i < j)))
 | .tup ts, .tup us => (intsT ts).bind fun ns => (intsT us).map fun ms => .bl (HT.lexLt ns ms)
 | _, _ => none
theorem fLtV.mo : MoR fLtV := fun x y S Q Q' hq h => by
 unfold fLtV at h ⊢
 split at h
 ·exact hq _ _ h
 ·obtain ⟨ns, ms, h1, h2, h3⟩ := h
  exact ⟨ns, ms, h1, h2, hq _ _ h3⟩
 ·exact h.elim
theorem fLtV.fits : Fits2 K fLtV (fun x y H Q => rI0 (fun i j => .bl (decide (i < j))) x y H Q \/ rLtT K x y H Q) := fun x y d e H S Q h1 h2 h3 h => by
 unfold fLtV at h
 split at h
 ·simp only [RepD] at h1 h2
  exact .inl ⟨_, _, h1, h2, h _ H (by simp only [RepD]) (.refl H) h3⟩
 ·obtain ⟨ns, ms, rfl, rfl, h⟩ := h
  simp only [RepD] at h1 h2
  obtain ⟨a, xs, rfl, g1, g2⟩ := h1
  obtain ⟨b, ys, rfl, g3, g4⟩ := h2
  rw [g2.ints] at g1
  rw [g4.ints] at g3
  exact .inr ⟨a, b, ns, ms, rfl, rfl, g1, g3, h _ H (by simp only [RepD]) (.refl H) h3⟩
 ·exact h.elim
theorem good_lt : Good2 RkF ltS fLtV := fun S Z x y z d e Q hz hx hy ef hq => by
 unfold ltS at ef
 split at ef
 ·cases ef
  cases hx.int; cases hy.int
  exact hq _ S (.refl S) (Cl.of (fun _ => nofun) sn_bl)
 ·obtain ⟨ns, e1, e2⟩ := Option.bind_eq_some_iff.mp ef
  obtain ⟨ms, e3, rfl⟩ := Option.map_eq_some_iff.mp e2
  cases intsT_some e1
  cases intsT_some e3
  obtain ⟨ds, rfl, h2⟩ := hx.tup
  obtain ⟨es, rfl, h4⟩ := hy.tup
  exact ⟨ns, ms, sns_ints.mp h2, sns_ints.mp h4, hq _ S (.refl S) (Cl.of (fun _ => nofun) sn_bl)⟩
 ·cases ef
theorem op_ltV {k : Nat} (hr : Room k X.A) : OpR X (compareOp .Lt) (fun x y H Q => rI0 (fun i j => .bl (decide (i < j))) x y H Q \/ rLtT X.K x y H Q) := op_lt.or (op_ltT (by have := hr.units; omega))
theorem pdt_ltV {k : Nat} (hr : Room k X.A) (ha : PD X a ta) (hb : PD X b tb) : PDT X (.Compare a [.Lt] [b] pos) (dTest (dOp fLtV ta tb)) := pdt_cmp (op_ltV hr) fLtV.fits fLtV.mo ha hb (nomark _)
end
end L5
namespace ZP
open PySem PyProof.Rows
section
variable {prog : Program} {w : World} {A : Around} {E : Value -> Shared -> Prop} {s : Shared}
end
end ZP
namespace ZP
open PySem PyProof.Rows
section
variable {prog : Program} {w : World} {A : Around} {E : Value -> Shared -> Prop} {s : Shared}
end
end ZP
namespace L2
open PySem PySem.Spec PyProof.Rows ZP
section
variable {X : Cx} {pins : List (Addr × Obj)} {σ : St} {H : Hp} {s : Shared}
end
end L2
namespace L5
open PySem PySem.Spec L2 L3
open PyProof.Rows hiding St
section
variable {X : Cx} {K : PySem.W.Frag} {a b : Expr} {tA : TDA} {pos p pos' : Pos}
end
end L5
namespace L5
open PySem PySem.Spec L2 L3
open PyProof.Rows hiding St
section
variable {X : Cx} {K : PySem.W.Frag} {a b : Expr} {tA : TDA} {pos p pos' : Pos} {es : List Expr} {kk : Nat}
end
end L5
namespace HT
open PySem PyProof.Rows
section
variable {prog : Program} {w : World} {A : Around} {E : Value -> Shared -> Prop} {s : Shared}
end
end HT
namespace L2
open PySem PySem.Spec PyProof.Rows
section
variable {X : Cx}
end
end L2
namespace L5
open PySem PySem.Spec L2 L3
open PyProof.Rows hiding St
section
variable {X : Cx} {K : PySem.W.Frag} {e : Expr} {lo hi : Option Expr} {te : TDE} {tl th : Option TDE} {pos p2 : Pos}
end
end L5
namespace TM
open PySem PyProof.Rows
set_option maxRecDepth 100000
section
variable {prog : Program} {w : World} {A : Around} {E : Value -> Shared -> Prop} {s : Shared}
end
end TM
namespace L2
open PySem PySem.Spec PyProof.Rows
end L2
namespace L5
open PySem PySem.Spec L2 L3
open PyProof.Rows hiding St
section
variable {X : Cx} {K : PySem.W.Frag} {a b : Expr} {ta tb : TDE} {pos : Pos}
end
end L5
namespace L4
open PySem PyProof.Rows
section
variable {prog : Program} {w : World} {A : Around} {E : Value -> Shared -> Prop} {s : Shared}
theorem collectT {l : Addr} {vs : List Value} {Q : List Value -> Shared -> Prop} (hl : IsTup s.heap l vs.toArray) (hz : vs.length <= sizeLine)
  (h : Q vs { s with heap := (s.heap.push (seqObj "list" #[] 0)).update s.heap.objs.size (Obj.mapSeq (· ++ vs.toArray)) }) : wpAny (model prog w) A (collect (.ref l)) Q E s := by
 obtain ⟨o, ho, hc, n, hd⟩ := id hl
 have new : (s.heap.push (seqObj "list" #[] 0)).get? s.heap.objs.size = some (seqObj "list" #[] 0) := Heap.get?_push_size _ rfl
 have ho' : (s.heap.push (seqObj "list" #[] 0)).get? l = some o := Heap.get?_push_of_some _ ho
 unfold collect
 refine wpAny_bind (wpAny_runValue (codeAny_builtin entry_proto_collect' (wpAny_bind (m := newList []) (wpAny_newList (wpAny_pure ⟨Code.quiet_builtin _ (by decide +kernel), codeAny_builtin entry_list_iadd' ?_⟩)))))
 show wpAny _ _ (Builtin.List.listExtendWith (.ref s.heap.objs.size) (.ref l) (.ref s.heap.objs.size)) _ _ { s with heap := s.heap.push (seqObj "list" #[] 0) }
 unfold Builtin.List.listExtendWith
 refine wpAny_bind (wpAny_typeOf (T := "tuple") ⟨o, ho', hc⟩ ?_)
 rw [if_pos (by rw [show (Value.type "tuple" == Value.type "tuple") = true from rfl]; simp)]
 refine wpAny_bind (listItems_at ho' hd (wpAny_bind (listItems_at (xs := #[]) (n := 0) new rfl ?_)))
 rw [if_neg (by simp)]
 refine wpAny_bind (listUpdate_at (xs := #[]) (n := 0) new rfl (wpAny_pure ?_) (Nat.zero_le _) (by show (#[] ++ vs.toArray).size <= sizeLine + 1; simp only [Array.size_append, List.size_toArray, List.length_nil]; omega))
 refine wpAny_bind (m := load s.heap.objs.size) (wpAny_load (get?_update_seq new _) ?_)
 show wpAny _ _ (pure ((#[] : Array Value) ++ vs.toArray).toList) Q E _
 have e : ((#[] : Array Value) ++ vs.toArray).toList = vs := by simp
 rw [e]
 exact wpAny_pure h
theorem sorted_byT {l : Addr} {vs : List Value} {Q : Value -> Shared -> Prop} {Out : Array Value -> Prop} (hl : IsTup s.heap l vs.toArray) (hz : vs.length <= sizeLine)
  (core : 2 <= vs.length -> ∀ s6 : Shared, (∀ b o, s.heap.get? b = some o -> s6.heap.get? b = some o) -> Core prog w A.in1.in1 E vs Out s6) (short : vs.length < 2 -> Out vs.toArray)
  (fin : ∀ out : Array Value, Out out -> out.size = vs.length -> Q (.ref (s.heap.objs.size + 1)) { s with heap := sortedAll s.heap vs out }) :
  wpAny (model prog w) A (call (.builtin "sorted") [.ref l]) Q E s := by
 let h1 := (s.heap.push (seqObj "list" #[] 0)).update s.heap.objs.size (Obj.mapSeq (· ++ vs.toArray))
 have sz : h1.objs.size = s.heap.objs.size + 1 := by show (Heap.update _ _ _).objs.size = _; rw [Heap.size_update, size_push']
 have there : (h1.push (seqObj "list" vs.toArray 0)).get? (s.heap.objs.size + 1) = some (seqObj "list" vs.toArray 0) := sz ▸ Heap.get?_push_size _ rfl
 have keep : ∀ b o, s.heap.get? b = some o -> (h1.push (seqObj "list" vs.toArray 0)).get? b = some o := fun b o q => by
  refine Heap.get?_push_of_some _ ?_
  show (Heap.update _ _ _).get? b = _
  rw [Heap.get?_update_ne _ _ _ _ (Nat.ne_of_lt (Heap.lt_size q))]
  exact Heap.get?_push_of_some _ q
 refine Calls.call_function_entry kind_sorted plain_sorted entry_sorted (args_sorted1 _) ?_
 unfold Builtin.«sorted»
 refine wpAny_bind (m := checkCount "sorted" 1 1 _) (wpAny_pure (wpAny_bind (collectT hl hz (wpAny_bind (wpAny_newList ?_ hz)))))
 show wpAny _ _ _ _ _ { s with heap := h1.push (seqObj "list" vs.toArray 0) }
 rw [show (Heap.update (s.heap.push (seqObj "list" #[] 0)) s.heap.objs.size (Obj.mapSeq (· ++ vs.toArray))).objs.size = s.heap.objs.size + 1 from sz]
 refine wpAny_bind (wpAny_holding (wpAny_call_entry slot_list_sort ⟨_, there, rfl⟩ entry_list_sort (list_sort_by there hz (fun h2 s6 k => core h2 s6 fun b o q => k b o (Nat.ne_of_lt (Nat.lt_succ_of_lt (Heap.lt_size q))) (keep b o q)) short fun out g1 g2 => ⟨_, rfl, ?_⟩) (args_list_sort _)))
 exact wpAny_pure ⟨_, rfl, fin out g1 g2⟩
end
section
open L2 PySem.Spec
variable {X : Cx}
theorem call_sortedT : CallR X (.builtin "sorted") (fun xs H Q => ∃ p ys, ∃ rows : List (List Int), xs = [.ref p] /\ SqT X.K H p ys /\ Paired (fun v r => r ≠ [] /\ ∃ b, v = V.ref b /\ SqT X.K H b (r.map V.int)) ys rows /\ rows.length < 128 /\
  ∀ (l : Addr) (idx : List Nat), H l = none -> idx.Perm (List.range ys.length) -> (idx.map fun i => rows.getD i []).Pairwise (fun a b => HT.lexLt b a = false) -> Q (.ref l) (upd H l (.lst (idx.map fun i => ys.getD i .non)))) := by
 intro pins s σ H xs us Q I r h
 obtain ⟨p, ys, rows, rfl, hq, hr, h64, q⟩ := h
 obtain ⟨u, rfl, ru⟩ := vals1 r
 cases ru
 obtain ⟨its, rv, pl, hz⟩ := I.tuple hq
 have hl := rv.length
 have hlr : ys.length = rows.length := Paired.length hr
 have rows_at : ∀ h6 : Heap, (∀ b o, s.heap.get? b = some o -> h6.get? b = some o) -> RowsAt h6 its rows := fun h6 k => by
  refine ST.Paired.mk (by omega) fun i a b ha hb => ?_
  have hi : i < ys.length := by have := (List.getElem?_eq_some_iff.mp hb).1; omega
  obtain ⟨hne, c, hc, hsq⟩ := L4.Paired.at' hr (i := i) hi V.non ([] : List Int)
  obtain ⟨u, e1, e2⟩ := rv.get (i := i) (x := ys.getD i V.non) (by simp [hi])
  rw [ha] at e1; cases e1
  rw [hc] at e2
  cases (show a = Value.ref c from e2)
  obtain ⟨its2, rv2, ⟨o, e, hcl, n, hd⟩, _⟩ := I.tuple hsq
  have eb : rows.getD i [] = b := by simp [hb]
  rw [eb] at hne rv2
  exact ⟨hne, c, o, _, n, rfl, k _ _ e, hcl, hd, by simpa using intsAre_of rv2⟩
 refine sorted_byT (Out := OutR its rows) pl (by rw [<- hl]; exact hz) (fun h2 s6 k => core_rows (rows_at _ k) h2 (by omega)) (fun h1 => ?_) fun out ho hs => ?_
 ·refine ⟨List.range its.length, .refl _, ?_, ?_⟩
  ·refine List.ext_getElem (by simp) fun i h1 h2 => ?_
   simp at h1
   simp [h1]
  ·rw [List.pairwise_map, List.pairwise_iff_getElem]
   intro i j hi hj hij
   simp at hi hj
   omega
 ·obtain ⟨idx, g1, g2, g3⟩ := ho
  obtain ⟨e, ho⟩ := sortedAll_at s.heap its out
  have g1' : idx.Perm (List.range ys.length) := by rw [hl]; exact g1
  refine ⟨.ref (s.heap.objs.size + 1), _, I.laid (t' := s.toks) (o := .lst (idx.map fun i => ys.getD i .non)) (fun b o q => sortedAll_old q) (Nat.le_succ _) ?_, rfl, q _ idx (I.hok.fresh (Nat.le_succ _)) g1' g3⟩
  refine ⟨by rw [List.length_map, g1'.length_eq, List.length_range]; exact hz, out.toList, e, ?_, by simpa using ho⟩
  rw [g2]
  refine ST.Paired.mk (by simp) fun j a b ha hb => ?_
  rw [List.getElem?_map] at ha hb
  obtain ⟨i, hi, rfl⟩ := Option.map_eq_some_iff.mp ha
  rw [hi] at hb
  cases hb
  have hil : i < ys.length := by simpa using g1'.mem_iff.mp (List.mem_of_getElem? hi)
  obtain ⟨u, e1, e2⟩ := rv.get (i := i) (x := ys.getD i V.non) (by simp [hil])
  have e3 : its.getD i Value.none = u := by simp [e1]
  show L2.RelV (ys.getD i V.non) (its.getD i Value.none)
  rw [e3]; exact e2
end
end L4
namespace L5
open PySem PySem.Spec L2 L3
open PyProof.Rows hiding St
section
variable {X : Cx} {K : PySem.W.Frag} {e : Expr} {es : List Expr} {tA : TDA} {pos p pos2 p2 : Pos}
def fSortW : RDn := fun ds S Q => ∃ d, ∃ rows : List (List Int), ds = [d] /\ seqOf d S = some (rows.map rowD) /\ rows.length < 128 /\ (∀ r ∈ rows, r ≠ []) /\ ∀ l, S l = none -> Q (.ref l) (ups S l (.lst ((L4.sortR rows).map rowD)))
noncomputable def sortW : List T -> Option T
 | [y] => (seqT y).bind fun ts => (rowsT ts).bind fun rs => if rs.length < 128 /\ ∀ r ∈ rs, r ≠ [] then some (.lst ((L4.sortR rs).map rowT)) else none
 | _ => none
theorem good_sortW : GoodN RkF sortW fSortW := fun S Z ys z ds Q hz hv e hq => by
 unfold sortW at e
 split at e
 ·obtain ⟨d, rfl, h1⟩ := vws1 hv
  obtain ⟨ts, e0, e⟩ := Option.bind_eq_some_iff.mp e
  obtain ⟨rs, e1, e2⟩ := Option.bind_eq_some_iff.mp e
  split at e2
  ·rename_i hc
   cases e2
   cases rowsT_some e1
   obtain ⟨es, h2, h3⟩ := h1.seq e0
   cases sns_rows.mp h3
   exact ⟨d, rs, rfl, h2, hc.1, hc.2, fun l hl => hq _ _ (.new hl _) (rkF_new hz hl (sns_rows.mpr rfl))⟩
  ·cases e2
 ·cases e
theorem fSortW.mo : MoN fSortW := fun ds S Q Q' hq ⟨d, rows, h0, h1, h2, h3, h4⟩ => ⟨d, rows, h0, h1, h2, h3, fun l hl => hq _ _ (h4 l hl)⟩
abbrev rSortW (K : PySem.W.Frag) (sq : Hp -> Addr -> List V -> Prop) : List V -> Hp -> VK -> Prop := fun xs H Q => ∃ p ys, ∃ rows : List (List Int), xs = [.ref p] /\ sq H p ys /\ Paired (fun v r => r ≠ [] /\ ∃ b, v = V.ref b /\ SqT K H b (r.map V.int)) ys rows /\ rows.length < 128 /\
  ∀ (l : Addr) (idx : List Nat), H l = none -> idx.Perm (List.range ys.length) -> (idx.map fun i => rows.getD i []).Pairwise (fun a b => HT.lexLt b a = false) -> Q (.ref l) (upd H l (.lst (idx.map fun i => ys.getD i .non)))
theorem CallR.or {f : Value} {r r' : List V -> Hp -> VK -> Prop} (h : CallR X f r) (h' : CallR X f r') : CallR X f (fun xs H Q => r xs H Q \/ r' xs H Q) := fun pins s σ H xs us Q I rv q =>
 q.elim (fun q => h pins s σ H xs us Q I rv q) fun q => h' pins s σ H xs us Q I rv q
theorem fSortW.fits : FitsN K fSortW (fun xs H Q => rSortW K (SqL K) xs H Q \/ rSortW K (SqT K) xs H Q) := fun xs ds H S Q h0 h2 h => by
 obtain ⟨d, rows, rfl, e, h64, hne, h⟩ := h
 obtain ⟨x, hx, h1⟩ := h0.one; subst hx
 obtain ⟨a, ys, rfl, g1, g2⟩ := seqOf.sq h1 h2 e
 have hl := g2.length
 rw [List.length_map] at hl
 have key : ∀ (l : Addr) (idx : List Nat), H l = none -> idx.Perm (List.range ys.length) -> (idx.map fun i => rows.getD i []).Pairwise (fun a b => HT.lexLt b a = false) -> Q (.ref l) (upd H l (.lst (idx.map fun i => ys.getD i .non))) := fun l idx hf hp hs => by
  rw [<- hl] at hp
  have heq := L4.sortR_unique (map_getD_perm hp) hs
  have hx : Ext H (upd H l (.lst (idx.map fun i => ys.getD i .non))) := .new hf _
  refine h l (h2.none hf) _ _ (by simp only [RepD]) hx (h2.ups hx ⟨_, upd_same, ?_⟩)
  rw [<- heq]
  exact RepDs.ext hx _ (g2.perm fun i hi => by simpa using hp.mem_iff.mp hi)
 rcases g1 with g1 | g1
 ·exact .inl ⟨_, ys, rows, rfl, g1, rows_paired g2 hne, h64, key⟩
 ·exact .inr ⟨_, ys, rows, rfl, g1, rows_paired g2 hne, h64, key⟩
theorem pd_sortedW (hm : X.mg "sorted" = none) (ha : PDA X (e :: es) tA) (hg : Gl X "sorted" := by rfl) (he : starEach (e :: es) X.env = (false, eval e X.env) :: starEach es X.env := by rfl) (hpl : (backTo pos (starEach es X.env)).any (·.1) = false := by rfl) : PD X (.Call (.Name "sorted" p) (e :: es) [] pos) (dCB fSortW tA) :=
 pd_of_callB (pe_callB (CallR.or L4.call_sortedRG L4.call_sortedT) hg hm boot_sorted ha.pa (by decide) (by decide) he hpl) fSortW.mo fSortW.fits ha.mo
end
end L5
namespace L2
open PySem PySem.Spec PyProof.Rows
section
variable {X : Cx}
end
end L2
namespace L5
open PySem PySem.Spec L2 L3
open PyProof.Rows hiding St
section
variable {X : Cx} {K : PySem.W.Frag} {e : Expr} {tA : TDA} {pos p pos2 p2 : Pos}
end
end L5
namespace L3
open PySem PySem.Spec PyProof.Rows L2
theorem RepDs.unsnoc {K : PySem.W.Frag} {H : Hp} : ∀ {ds : List D} {d : D} {xs : List V}, RepDs K H (ds ++ [d]) xs -> ∃ ys y, xs = ys ++ [y] /\ RepDs K H ds ys /\ RepD K H d y
 | [], d, xs, h => by
  simp only [List.nil_append, RepDs] at h
  obtain ⟨x, r, rfl, h1, rfl⟩ := h
  exact ⟨[], x, rfl, by simp only [RepDs], h1⟩
 | c :: ds, d, xs, h => by
  simp only [List.cons_append, RepDs] at h
  obtain ⟨x, r, rfl, h1, h2⟩ := h
  obtain ⟨ys, y, rfl, h3, h4⟩ := RepDs.unsnoc h2
  exact ⟨x :: ys, y, rfl, by simp only [RepDs]; exact ⟨x, ys, rfl, h1, h3⟩, h4⟩
section
variable {X : Cx} {K : PySem.W.Frag} {o : Expr} {to : TDE} {apos cpos : Pos}
def dPop (to : TDE) : TDE := fun δ S Q => to δ S fun x S1 => match x with
 | .ref p => ∃ ds d, S1 p = some (.lst (ds ++ [d])) /\ Q d (ups S1 p (.lst ds))
 | _ => False
theorem pd_pop {e0 : Expr} (hpe : PE X e0 (tBM0 X.K "list" rPop (upE X.K to))) (h : MoE to) : PD X e0 (dPop to) := by
 refine ⟨fun δ S Q Q' hq z => h δ S _ _ (fun x S1 z => by
  cases x with
  | ref p => obtain ⟨ds, d, a, b⟩ := z; exact ⟨ds, d, a, hq _ _ b⟩
  | _ => exact z) z, PE.imp hpe fun σ H Q hu => ?_⟩
 obtain ⟨δ, S, r1, r2, z⟩ := hu
 refine upE.go h r1 r2 z fun x S1 v H1 h1 q1 e1 p1 => ?_
 cases x with
 | ref p =>
  obtain ⟨ds, d, hd, h1⟩ := h1
  simp only [RepD] at q1
  subst q1
  obtain ⟨xs, g1, g2⟩ := p1 _ _ hd
  obtain ⟨ys, y, rfl, g3, g4⟩ := RepDs.unsnoc g2
  refine ⟨.inl ⟨rfl, _, SqL.of g1⟩, p, _, y, rfl, rfl, g1, by simp, ?_⟩
  rw [List.dropLast_concat]
  have e4 : Ext H1 (upd H1 p (.lst ys)) := .lst g1 _
  exact h1 _ _ (RepD.ext e4 d g4) (e1.trans e4) (p1.ups e4 ⟨_, upd_same, RepDs.ext e4 _ g3⟩)
 | non => exact h1.elim
 | bl _ => exact h1.elim
 | int _ => exact h1.elim
 | str _ => exact h1.elim
 | tup _ => exact h1.elim
 | rol _ => exact h1.elim
theorem pd_m_pop (ho : PD X o to) (hbase : attributeBase o "pop" X.env (eval o X.env) = eval o X.env := by rfl) (hline : (apos.endLine == cpos.line) = true := by rfl) :
  PD X (.Call (.Attribute o "pop" apos) [] [] cpos) (dPop to) :=
 pd_pop (pe_bm0 PySem.F.plainAttrs_list PySem.F.slot_list_pop PySem.F.type_list_pop mt_pop ho.pe hbase hline) ho.mo
end
end L3
namespace L5
open PySem L2 L3
@[simp] noncomputable def popS (i : Nat) : Sm := fun ρ => match ρ[i]? with
 | some (some (.own (.lst ts))) => if ts.isEmpty = true then none else some (.nx (ρ.set i (some (.own (.lst ts.dropLast)))))
 | _ => none
theorem Sns.dropLast {S : SS} {ts : List T} {ds : List D} (h : Sns S ts ds) : Sns S ts.dropLast ds.dropLast := by
 rw [List.dropLast_eq_take, List.dropLast_eq_take, h.len]
 exact Sns.take' _ h
theorem oks_pop {R : Rk} (i : Nat) : OkS R (popS i) (dDrop (dPop (dVar i))) := fun S0 Z0 S Z δ ρ o E F e P => by
 unfold popS at e
 split at e
 ·rename_i ts h
  split at e
  ·cases e
  rename_i h0
  cases e
  obtain ⟨p, ob, h1, h2, h3, h4⟩ := F.er.ow i _ h
  obtain ⟨ds, rfl⟩ : ∃ ds, ob = .lst ds := by
   cases ob with
   | lst ds => exact ⟨ds, rfl⟩
   | dct _ => exact h3.elim
  replace h3 : Sns (hid S Z) ts ds := h3
  have hne : ds ≠ [] := fun e => by
   have := h3.len
   rw [e] at this
   exact h0 (by rw [List.isEmpty_iff]; exact List.length_eq_zero_iff.mp this.symm)
  show dPop (dVar i) δ S _
  unfold dPop dVar
  rw [h1]
  refine ⟨ds.dropLast, ds.getLast hne, by rw [List.dropLast_concat_getLast]; exact h2, P _ Z δ (F.mut (us := .lst ts.dropLast) (es := .lst ds.dropLast) i h h1 ?_)⟩
  exact Sns.dropLast h3
 ·cases e
end L5
namespace K12
open PySem L2 L3 L5
def b1_least_pairs : Sm :=
 (ifS (eOrS (eNotS (truS (vrS 1))) (tstS (opS ltS (opS ixS (vrS 2) (cS (.int 1))) (opS ixS (opS ixS (vrS 1) (negS (cS (.int 1)))) (cS (.int 1)))))) (appS 1 (varS 2)) skipS)
def B_least_pairs : Sm :=
 (seqS (asgO 1 (lstS nilS))
 (seqS (forS [2] (itS (cbS sortW (consS (vrS 0) nilS))) (nmG 2) b1_least_pairs)
 (retS (cbS tupleS (consS (vrS 1) nilS)))))
def F_least_pairs : List T -> Option T := runB ["pairs", "least", "pair"] 1 B_least_pairs
def B_law_cell : Sm :=
 (seqS (ifS (tstS (opS ltS (vrS 1) (cbS lenS (consS (vrS 0) nilS)))) (retS (opS modT (opS ixS (vrS 0) (vrS 1)) (opS powT (cS (.int 10)) (cS (.int 40))))) skipS)
 (retS (cS (.int 0))))
def F_law_cell : List T -> Option T := runB ["_law_script", "_law_k"] 2 B_law_cell
def b1_law_held : Sm :=
 (ifS (eAndS (tstS (opS geI (opS ixS (vrS 1) (cS (.int 0))) (vrS 2))) (tstS (opS geI (opS ixS (vrS 1) (cS (.int 1))) (vrS 3)))) (retS (cS (.bl true))) skipS)
def B_law_held : Sm :=
 (seqS (forS [2, 3] (itS (varS 0)) (tpG 2 (consG (nmG 2) (consG (nmG 3) nilG))) b1_law_held)
 (retS (cS (.bl false))))
def F_law_held : List T -> Option T := runB ["_law_border", "_law_pair", "_law_x", "_law_y"] 2 B_law_held
def B_law_whole : Sm :=
 (retS (andS (instS "int" (vrS 0)) (notS (instS "bool" (vrS 0)))))
def F_law_whole : List T -> Option T := runB ["_law_found"] 1 B_law_whole
def b1_law_is_border : Sm :=
 (ifS (eOrS (eNotS (truS (instS "tuple" (vrS 1)))) (eOrS (tstS (opS (eqS true) (cbS lenS (consS (vrS 1) nilS)) (cS (.int 2)))) (eOrS (eNotS (truS (cbS F_law_whole (consS (opS ixS (vrS 1) (cS (.int 0))) nilS)))) (eNotS (truS (cbS F_law_whole (consS (opS ixS (vrS 1) (cS (.int 1))) nilS))))))) (retS (cS (.bl false))) skipS)
def b2_law_is_border : Sm :=
 (ifS (eOrS (tstS (opS geI (opS ixS (opS ixS (vrS 0) (opS subT (vrS 2) (cS (.int 1)))) (cS (.int 0))) (opS ixS (opS ixS (vrS 0) (vrS 2)) (cS (.int 0))))) (tstS (opS leI (opS ixS (opS ixS (vrS 0) (opS subT (vrS 2) (cS (.int 1)))) (cS (.int 1))) (opS ixS (opS ixS (vrS 0) (vrS 2)) (cS (.int 1)))))) (retS (cS (.bl false))) skipS)
def B_law_is_border : Sm :=
 (seqS (ifS (eNotS (truS (instS "tuple" (vrS 0)))) (retS (cS (.bl false))) skipS)
 (seqS (forS [1] (itS (varS 0)) (nmG 1) b1_law_is_border)
 (seqS (forS [2] (itA rng2 (consS (cS (.int 1)) (consS (cbS lenS (consS (vrS 0) nilS)) nilS))) (nmG 2) b2_law_is_border)
 (retS (cS (.bl true))))))
def F_law_is_border : List T -> Option T := runB ["_law_found", "_law_pair", "_law_k"] 1 B_law_is_border
def b1_law_drawn : Sm :=
 (seqS (asgS 4 (cbS F_law_cell (consS (varS 0) (consS (varS 3) nilS))))
 (appS 2 (tupS (consS (opS modT (vrS 4) (vrS 1)) (consS (opS modT (opS fdivT (vrS 4) (cS (.int 5))) (vrS 1)) nilS)))))
def B_law_drawn : Sm :=
 (seqS (asgS 1 (opS ixS (lstS (consS (cS (.int 4)) (consS (cS (.int 13)) (consS (opS powT (cS (.int 10)) (cS (.int 30))) nilS)))) (opS modT (cbS F_law_cell (consS (varS 0) (consS (cS (.int 0)) nilS))) (cS (.int 3)))))
 (seqS (asgO 2 (lstS nilS))
 (seqS (forS [3, 4] (itA rng2 (consS (cS (.int 2)) (consS (cbS minS (consS (cbS lenS (consS (vrS 0) nilS)) (consS (cS (.int 63)) nilS))) nilS))) (nmG 3) b1_law_drawn)
 (seqS (ifS (tstS (opS (eqS false) (opS modT (cbS F_law_cell (consS (varS 0) (consS (cS (.int 1)) nilS))) (cS (.int 3))) (cS (.int 1)))) (asgO 2 (opS addS (vrS 2) (vrS 2))) skipS)
 (retO 2)))))
def F_law_drawn : List T -> Option T := runB ["_law_script", "_law_most", "_law_found", "_law_k", "_law_cell_here"] 1 B_law_drawn
def c1_law_right : Ev -> Option T :=
 lcS [none, some 1] (itS (vrS 0)) (nmG 0) cTrue (opS (inS false) (vrS 0) (vrS 1))
def c2_law_right : Ev -> Option T :=
 lcS [none, some 0] (itS (vrS 1)) (nmG 0) cTrue (cbS F_law_held (consS (varS 1) (consS (varS 0) nilS)))
def B_law_right : Sm :=
 (seqS (ifS (eOrS (eNotS (truS (cbS F_law_is_border (consS (varS 0) nilS)))) (eNotS (truS (cbS (bsS fun bs => bs.all id) (consS c1_law_right nilS))))) (retS (cS (.bl false))) skipS)
 (retS (cbS (bsS fun bs => bs.all id) (consS c2_law_right nilS))))
def F_law_right : List T -> Option T := runB ["_law_found", "_law_pairs"] 2 B_law_right
def B_law : Sm :=
 (seqS (asgS 1 (cbS F_law_drawn (consS (varS 0) nilS)))
 (seqS (asgO 2 (cbS listS (consS (vrS 1) nilS)))
 (seqS (asgS 3 (calP F_least_pairs (consS (vrS 2) nilS)))
 (seqS (ifS (eOrS (tstS (opS (eqS true) (vrS 2) (vrS 1))) (eNotS (truS (cbS F_law_right (consS (varS 3) (consS (varS 1) nilS)))))) (retS (cS (.bl false))) skipS)
 (seqS (appS 2 (tupS (consS (cS (.int 0)) (consS (cS (.int 0)) nilS))))
 (seqS (ifS (tstS (opS (eqS true) (calP F_least_pairs (consS (vrS 2) nilS)) (tupS (consS (tupS (consS (cS (.int 0)) (consS (cS (.int 0)) nilS))) nilS)))) (retS (cS (.bl false))) skipS)
 (seqS (popS 2)
 (retS (opS (eqS false) (calP F_least_pairs (consS (vrS 2) nilS)) (vrS 3))))))))))
def F_law : List T -> Option T := runB ["_law_script", "_law_pairs", "_law_handed", "_law_found"] 1 B_law
end K12
namespace K12
open PySem L2 L3 L5
theorem sort_prW (ps : List (Int × Int)) (h : ps.length < 128) : sortW [.lst (ps.map prT)] = some (.lst ((sortP ps).map prT)) := by
 show (rowsT (ps.map prT)).bind _ = _
 rw [rows_pr, Option.bind_some, if_pos ⟨by simpa using h, fun r hr => by obtain ⟨p, _, rfl⟩ := List.mem_map.mp hr; simp [row2]⟩, <- sortP_row, List.map_map]
 rfl
noncomputable def cell (ns : List Int) (k : Nat) : Int := if k < ns.length then ns.getD k 0 % 10 ^ 40 else 0
theorem F_cell (ns : List Int) (k : Nat) : F_law_cell [scrT ns, .int (k : Int)] = some (.int (cell ns k)) := by
 unfold F_law_cell B_law_cell cell scrT
 by_cases h : k < ns.length
 ·have e : L2.atI (ns.map T.int) (k : Int) = some (.int (ns.getD k 0)) := atI_natT (by simp [h])
  simp [h, e, CPow, ltS]
 ·simp [h, ltS]
theorem F_held (b : T) (ps : List (Int × Int)) (q : Int × Int) (hb : seqT b = some (ps.map prT)) : F_law_held [b, prT q] = some (.bl (cov ps q)) := by
 have h := loop_any (is := [2, 3]) (g := tpG 2 (consG (nmG 2) (consG (nmG 3) nilG))) (b := b1_law_held) prT (geP q) (.bl true) [some (.im b), some (.im (prT q)), none, none] ps [some (.im b), some (.im (prT q)), none, none] (by simp) fun p _ => ⟨[some (.im b), some (.im (prT q)), some (.im (.int p.1)), some (.im (.int p.2))], by simp, by
  by_cases h1 : p.1 <= q.1 <;> by_cases h2 : p.2 <= q.2 <;> simp [turn, b1_law_held, prT, geP, h1, h2]⟩
 unfold F_law_held B_law_held
 simp only [forS, itS, varS, runB, seqS, startE] at h ⊢
 simp [hb, h]
 unfold cov
 cases ps.any (geP q) <;> simp
theorem F_whole (i : Int) : F_law_whole [.int i] = some (.bl true) := by
 simp [F_law_whole, B_law_whole, isT]
theorem grd_step {qs p : List (Int × Int)} {x : Int × Int} (hr : ∀ r, qs ++ grd r (qs.getLast?.map (·.2)) = grd (p ++ r) none) (hb : bel (qs.getLast?.map (·.2)) x.2 = true) (r : List (Int × Int)) :
  (qs ++ [x]) ++ grd r ((qs ++ [x]).getLast?.map (·.2)) = grd (p ++ [x] ++ r) none := by
 have := hr (x :: r)
 rw [show grd (x :: r) (qs.getLast?.map (·.2)) = x :: grd r (some x.2) by rw [grd, if_pos hb]] at this
 simpa using this
theorem grd_skip {qs p : List (Int × Int)} {x : Int × Int} (hr : ∀ r, qs ++ grd r (qs.getLast?.map (·.2)) = grd (p ++ r) none) (hb : bel (qs.getLast?.map (·.2)) x.2 = false) (r : List (Int × Int)) :
  qs ++ grd r (qs.getLast?.map (·.2)) = grd (p ++ [x] ++ r) none := by
 have := hr (x :: r)
 rw [show grd (x :: r) (qs.getLast?.map (·.2)) = grd r (qs.getLast?.map (·.2)) by rw [grd, if_neg (by simp [hb])]] at this
 simpa using this
theorem F_least (ps : List (Int × Int)) (hl : ps.length < 128) : F_least_pairs [.lst (ps.map prT)] = some (.tup ((leastP ps).map prT)) := by
 obtain ⟨ρ', h1, qs, h2, h3, h4⟩ := loop_inv0 (is := [2]) (g := nmG 2) (b := b1_least_pairs) prT (fun p ρ => ∃ qs : List (Int × Int), ρ = [some (.im (.lst (ps.map prT))), some (.own (.lst (qs.map prT))), none] /\ qs.length <= p.length /\
   ∀ r, qs ++ grd r (qs.getLast?.map (·.2)) = grd (p ++ r) none) (sortP ps) [some (.im (.lst (ps.map prT))), some (.own (.lst [])), none] ⟨[], by simp, by simp, fun r => by simp⟩ (by
  rintro p x q e ρ ⟨qs, rfl, hq, hr⟩
  have hlen : p.length < 128 := by
   have := congrArg List.length e
   rw [(sortP_perm ps).length_eq] at this
   simp at this; omega
  have app : bel (qs.getLast?.map (·.2)) x.2 = true -> ∃ qs' : List (Int × Int), frg [2] [some (.im (.lst (ps.map prT))), some (.own (.lst (qs.map prT ++ [prT x]))), some (.im (prT x))] = [some (.im (.lst (ps.map prT))), some (.own (.lst (qs'.map prT))), none] /\ qs'.length <= (p ++ [x]).length /\ ∀ r, qs' ++ grd r (qs'.getLast?.map (·.2)) = grd (p ++ [x] ++ r) none := fun hb =>
   ⟨qs ++ [x], by simp, by simp; omega, grd_step hr hb⟩
  rcases List.eq_nil_or_concat qs with rfl | ⟨init, l, rfl⟩
  ·refine ⟨_, ?_, app (by simp [bel])⟩
   simp [turn, b1_least_pairs]
  ·simp only [List.concat_eq_append] at *
   by_cases hb : x.2 < l.2
   ·refine ⟨_, ?_, app (by simp [bel, hb])⟩
    simp at hq
    simp [turn, b1_least_pairs, prT, hb, ltS]
    omega
   ·refine ⟨[some (.im (.lst (ps.map prT))), some (.own (.lst ((init ++ [l]).map prT))), some (.im (prT x))], ?_, init ++ [l], by simp, by simp at hq ⊢; omega, grd_skip hr (by simp [bel]; omega)⟩
    simp [turn, b1_least_pairs, prT, hb, ltS])
 have h5 := h4 []
 simp [grd] at h5
 unfold F_least_pairs B_least_pairs
 simp [sort_prW ps hl, h1, h2, h5, leastP]
theorem F_isb (ps : List (Int × Int)) (hB : IsB ps) (hl : ps.length <= 1000) : F_law_is_border [.tup (ps.map prT)] = some (.bl true) := by
 have h1 := loop_any (is := [1]) (g := nmG 1) (b := b1_law_is_border) prT (fun _ => false) (.bl false) [some (.im (.tup (ps.map prT))), none, none] ps [some (.im (.tup (ps.map prT))), none, none] (by simp) fun p hp => ⟨[some (.im (.tup (ps.map prT))), some (.im (prT p)), none], by simp, by
  simp [turn, b1_law_is_border, prT, isT, F_whole, eqS, dep, deps, eqT]⟩
 have h2 := loop_any (is := [2]) (g := nmG 2) (b := b2_law_is_border) (fun k : Nat => T.int (1 + (k : Int))) (fun _ => false) (.bl false) [some (.im (.tup (ps.map prT))), none, none] (List.range (ps.length - 1)) [some (.im (.tup (ps.map prT))), none, none] (by simp) fun k hk => ⟨[some (.im (.tup (ps.map prT))), none, some (.im (.int (1 + (k : Int))))], by simp, by
  have hk' : k < ps.length - 1 := List.mem_range.mp hk
  have h0 : k < ps.length := by omega
  have h1 : k + 1 < ps.length := by omega
  have a0 : L2.atI (ps.map prT) (1 + (k : Int) - 1) = some (prT ps[k]) := by
   rw [show 1 + (k : Int) - 1 = (k : Int) by omega]; exact atI_natT (by simp [h0])
  have a1 : L2.atI (ps.map prT) (1 + (k : Int)) = some (prT ps[k + 1]) := by
   rw [show 1 + (k : Int) = ((k + 1 : Nat) : Int) by omega]; exact atI_natT (by simp [h1])
  have hr := List.pairwise_iff_getElem.mp hB k (k + 1) h0 h1 (by omega)
  have n1 : ¬ (ps[k + 1].1 <= ps[k].1) := by omega
  have n2 : ¬ (ps[k].2 <= ps[k + 1].2) := by omega
  simp [turn, b2_law_is_border, a0, a1, prT, n1, n2]⟩
 have hr := rng2_nat 1 ps.length (by omega) (by omega)
 rw [show ((1 : Nat) : Int) = 1 from rfl] at hr
 unfold F_law_is_border B_law_is_border
 simp [isT, hr, h1, h2]
theorem most3 (c : Int) : ∃ m : Int, 0 < m /\ L2.atI [T.int 4, T.int 13, T.int (10 ^ 30)] (c % 3) = some (.int m) := by
 have h0 := Int.emod_nonneg c (show (3 : Int) ≠ 0 by decide)
 have h3 := Int.emod_lt_of_pos c (show (0 : Int) < 3 by decide)
 rcases (show c % 3 = 0 \/ c % 3 = 1 \/ c % 3 = 2 by omega) with h | h | h <;> rw [h]
 ·exact ⟨4, by decide, by simp⟩
 ·exact ⟨13, by decide, by simp⟩
 ·exact ⟨10 ^ 30, by decide, by simp⟩
theorem deps_le {α : Type} (enc : α -> T) (n : Nat) (h : ∀ x, dep (enc x) <= n) : ∀ xs : List α, deps (xs.map enc) <= n
 | [] => by simp [deps]
 | x :: xs => by
  have := h x
  have := deps_le enc n h xs
  simp only [List.map_cons, deps]
  omega
theorem dep_pr (p : Int × Int) : dep (prT p) <= 1 := by simp [prT, dep, deps]
theorem dep_prs (ps : List (Int × Int)) : dep (.tup (ps.map prT)) <= 60 /\ dep (.lst (ps.map prT)) <= 60 /\ deps (ps.map prT) <= 60 := by
 have := deps_le prT 1 dep_pr ps
 simp only [dep]
 omega
theorem eq_tup (neg : Bool) (ps : List (Int × Int)) : eqS neg (.tup (ps.map prT)) (.tup (ps.map prT)) = some (.bl (!neg)) := by
 unfold eqS
 rw [if_pos ⟨(dep_prs ps).1, (dep_prs ps).1⟩, eqT_refl]; cases neg <;> rfl
theorem eq_lst (neg : Bool) (ps : List (Int × Int)) : eqS neg (.lst (ps.map prT)) (.lst (ps.map prT)) = some (.bl (!neg)) := by
 unfold eqS
 rw [if_pos ⟨(dep_prs ps).2.1, (dep_prs ps).2.1⟩, eqT_refl]; cases neg <;> rfl
theorem in_prs {ps : List (Int × Int)} {p : Int × Int} (h : p ∈ ps) : inS false (prT p) (.lst (ps.map prT)) = some (.bl true) := by
 show (if dep (prT p) <= 60 /\ deps (ps.map prT) <= 60 then some (T.bl (cond false _ _)) else none) = _
 rw [if_pos ⟨Nat.le_trans (dep_pr p) (by decide), (dep_prs ps).2.2⟩]
 have : ((ps.map prT).any fun t => eqT t (prT p)) = true := List.any_eq_true.mpr ⟨prT p, List.mem_map.mpr ⟨p, h, rfl⟩, eqT_refl _⟩
 rw [this]; rfl
theorem plain_prs : ∀ ps : List (Int × Int), plainTs (ps.map prT) = true
 | [] => rfl
 | p :: ps => by simp [plainTs, plain_prs ps, prT, plainT]
theorem plain_tup (ps : List (Int × Int)) : plainT (.tup (ps.map prT)) = true := by rw [plainT]; exact plain_prs ps
theorem F_drawn (ns : List Int) (hn : ns.length <= 63) : ∃ qs : List (Int × Int), F_law_drawn [scrT ns] = some (.lst (qs.map prT)) /\ qs.length <= 122 /\ ∀ q ∈ qs, 0 <= q.1 /\ 0 <= q.2 := by
 obtain ⟨m, m0, m1⟩ := most3 (cell ns 0)
 obtain ⟨ρ', h1, qs, h2, h3, h4⟩ := loop_inv0 (is := [3, 4]) (g := nmG 3) (b := b1_law_drawn) (fun k : Nat => T.int (2 + (k : Int))) (fun p ρ => ∃ qs : List (Int × Int), ρ = [some (.im (scrT ns)), some (.im (.int m)), some (.own (.lst (qs.map prT))), none, none] /\ qs.length = p.length /\ ∀ q ∈ qs, 0 <= q.1 /\ 0 <= q.2)
  (List.range (ns.length - 2)) [some (.im (scrT ns)), some (.im (.int m)), some (.own (.lst [])), none, none] ⟨[], by simp, by simp, by simp⟩ (by
  rintro p x q e ρ ⟨qs, rfl, hq, hp⟩
  have hlen : p.length < 64 := by
   have := congrArg List.length e
   simp at this; omega
  have hsz : p.length < 16777216 := by omega
  have hc := F_cell ns (2 + x)
  rw [show ((2 + x : Nat) : Int) = 2 + (x : Int) by omega] at hc
  have p1 := Int.emod_nonneg (cell ns (2 + x)) (show m ≠ 0 by omega)
  have p2 := Int.emod_nonneg (cell ns (2 + x) / 5) (show m ≠ 0 by omega)
  refine ⟨[some (.im (scrT ns)), some (.im (.int m)), some (.own (.lst (qs.map prT ++ [prT (cell ns (2 + x) % m, cell ns (2 + x) / 5 % m)]))), some (.im (.int (2 + (x : Int)))), some (.im (.int (cell ns (2 + x))))], ?_, qs ++ [(cell ns (2 + x) % m, cell ns (2 + x) / 5 % m)], by simp, by simp; omega, ?_⟩
  ·simp [turn, b1_law_drawn, hc, m0, CDiv, hsz, prT, hq]
  ·intro r hr
   rcases List.mem_append.mp hr with hr | hr
   ·exact hp r hr
   ·rw [List.mem_singleton] at hr; subst hr; exact ⟨p1, p2⟩)
 have hc : F_law_cell [scrT ns, .int 0] = some (.int (cell ns 0)) := F_cell ns 0
 have hc1 : F_law_cell [scrT ns, .int 1] = some (.int (cell ns 1)) := F_cell ns 1
 have hr := rng2_nat 2 ns.length (by omega) (by omega)
 rw [show ((2 : Nat) : Int) = 2 from rfl] at hr
 have hlen : lenS [scrT ns] = some (.int (ns.length : Int)) := by simp [scrT]
 have hn' : ¬ (63 < (ns.length : Int)) := by omega
 have l3 : qs.length <= 61 := by rw [h3]; simp; omega
 have hz : qs.length + qs.length <= 16777216 := by omega
 by_cases h0 : cell ns 1 % 3 = 1
 ·refine ⟨qs ++ qs, ?_, by simp; omega, fun q hq => (List.mem_append.mp hq).elim (h4 q) (h4 q)⟩
  unfold F_law_drawn B_law_drawn
  simp [-Int.zero_add, hr, hc, hc1, m1, h1, h2, CPow, -Int.reducePow, hlen, hn', h0, hz, eqS, dep, eqT, -lenS]
 ·refine ⟨qs, ?_, by omega, h4⟩
  unfold F_law_drawn B_law_drawn
  simp [-Int.zero_add, hr, hc, hc1, m1, h1, h2, CPow, -Int.reducePow, hlen, hn', h0, eqS, dep, eqT, -lenS]
theorem bls_true {α : Type} (xs : List α) : blsT (xs.map fun _ => T.bl true) = some (xs.map fun _ => true) := by
 have := blsT_map (xs.map fun _ => true)
 rwa [List.map_map] at this
theorem F_right (ps L : List (Int × Int)) (hB : IsB L) (hl : L.length <= 1000) (hp : ps.length <= 1000) (hm : ∀ q ∈ L, q ∈ ps) (hc : ∀ q ∈ ps, cov L q = true) : F_law_right [.tup (L.map prT), .lst (ps.map prT)] = some (.bl true) := by
 have h1 : c1_law_right [some (.im (.tup (L.map prT))), some (.im (.lst (ps.map prT)))] = some (.lst (L.map fun _ => T.bl true)) := by
  unfold c1_law_right
  refine lc_map prT _ L (by simp) (by omega) fun p hp => ?_
  have := in_prs (hm p hp)
  simp [lcE, this]
 have h2 : c2_law_right [some (.im (.tup (L.map prT))), some (.im (.lst (ps.map prT)))] = some (.lst (ps.map fun _ => T.bl true)) := by
  unfold c2_law_right
  refine lc_map prT _ ps (by simp) (by omega) fun p hp => ?_
  have := F_held (.tup (L.map prT)) L p rfl
  rw [hc p hp] at this
  simp [lcE, this]
 have h3 := F_isb L hB hl
 have a1 : (L.map fun _ => true).all id = true := by simp
 have a2 : (ps.map fun _ => true).all id = true := by simp
 unfold F_law_right B_law_right
 simp [h1, h2, h3, bls_true]
theorem law_true (ns : List Int) (hn : ns.length <= 63) : F_law [scrT ns] = some (.bl true) := by
 obtain ⟨ps, hd, hl, hp⟩ := F_drawn ns hn
 have f1 := F_least ps (by omega)
 have f2 := F_least (ps ++ [(0, 0)]) (by simp; omega)
 have L1 := leastP_len ps
 have e2 : leastP (ps ++ [(0, 0)]) = [(0, 0)] := by
  refine IsB.eq (leastP_isB _) (by unfold IsB; simp) fun q => ?_
  rw [leastP_cov, cov_append]
  cases h0 : cov [(0, 0)] q with
  | true => simp
  | false =>
   rw [Bool.or_false]
   cases h1 : cov ps q with
   | false => rfl
   | true =>
    obtain ⟨p, hp1, hp2, hp3⟩ := cov_iff.mp h1
    obtain ⟨g1, g2⟩ := hp p hp1
    have : cov [(0, 0)] q = true := cov_iff.mpr ⟨(0, 0), by simp, by show (0 : Int) <= q.1; omega, by show (0 : Int) <= q.2; omega⟩
    rw [this] at h0; cases h0
 rw [e2] at f2
 have hr := F_right ps (leastP ps) (leastP_isB ps) (by omega) (by omega) (fun q hq => leastP_mem hq) fun q hq => by rw [leastP_cov]; exact cov_iff.mpr ⟨q, hq, by omega, by omega⟩
 have hz : ps.length < 16777216 := by omega
 have hz' : ps.length <= 16777216 := by omega
 have q1 := eq_lst true ps
 have q2 := eq_tup false (leastP ps)
 have q3 := eq_tup true [(0, 0)]
 have p1 := plain_tup (leastP ps)
 have p2 := plain_tup [(0, 0)]
 simp only [List.map_append, List.map_cons, List.map_nil, prT] at f2 q3 p2
 unfold F_law B_law
 simp [hd, f1, f2, hr, hz, hz', q1, q2, q3, p1, p2, prT]
end K12
namespace K12
open PySem L2 L3 L5
open PyProof.Rows hiding St
def top (i : Nat) : Stmt := PySem.Challenge.pw_purseborder_k12_least_pairs.main.body.getD i (.Pass ⟨0, 0, 0, 0⟩)
abbrev s_least_pairs : Stmt := top 1
abbrev s_law_cell : Stmt := top 3
abbrev s_law_held : Stmt := top 4
abbrev s_law_whole : Stmt := top 5
abbrev s_law_is_border : Stmt := top 6
abbrev s_law_drawn : Stmt := top 7
abbrev s_law_right : Stmt := top 8
abbrev s_law : Stmt := top 9
section
variable {P : Program} {w : World} {K : PySem.W.Frag} {mg : Str -> Option Value} {base : Heap} {f : Addr} {fd : FuncData}
theorem sc_least_pairs : FnScope ["pairs", "least", "pair"] ["pairs"] (defScope s_least_pairs) := ⟨rfl, rfl, rfl, by decide +kernel, rfl, by decide +kernel, by decide +kernel⟩
theorem ok_least_pairs (T : Bt mg) (U : Bq mg) (F : Fun K "least_pairs" "least_pairs" s_least_pairs f fd) (hm : mg "least_pairs" = some (.ref f)) : FD P w K mg base "least_pairs" 1 ["pairs"] (spF RkF F_least_pairs) :=
 fd5 (k := 0) F hm sc_least_pairs rfl (fun _ _ _ _ _ _ us hl => match us, hl with | [_], _ => rfl) fun cdv A outer s H E hr => ⟨_,
  (pdss_cons (pds_st 1 (sc_least_pairs).nd (pd_lst pda_nil))
  (pdss_cons (pds_for PassesOwn.never rfl (pdi_seq (pd_sortedW T.sorted (pda_cons (pd_var 0 (pv 0)) pda_nil))) (pdg_nm 2 (by decide +kernel : List.Nodup (α := Str) ["pairs", "least", "pair"])) (pdss_one (pds_if (PDW.pt (pdw_or (pdt_not (pdt_tru (pd_var 1 (pv 1)))) (pdw_or1 (pdt_ltV hr (pd_ix (pd_var 2 (pv 2)) pd_int) (pd_ix (pd_ix (pd_var 1 (pv 1)) (pd_neg pd_int)) pd_int))))) (pdss_one (pds_expr (pd_m_append (pd_var 1 (pv 1)) (pd_var 2 (pv 2))))) pdss_nil)))
  (pdss_one (pds_ret (pd_tuple_ T.tuple (pda_cons (pd_var 1 (pv 1)) pda_nil)))))),
  (oks_seq (oks_asgO 1 (ok_lst okav_nil))
  (oks_seq (oks_for (oki_seq ((ok_cb good_sortW (oka_cons (ok_vr 0) oka_nil))).fe) (okg_nm 2) (oks_if (ok_eor (ok_enot (ok_tru (ok_vr 1))) (ok_tst (ok_op good_lt ((ok_op good_ix (ok_vr 2) ((ok_int _)).fr)).er ((ok_op good_ix ((ok_op good_ix (ok_vr 1) ((ok_neg ((ok_int _)).fr)).fr)).er ((ok_int _)).fr)).er).fr)) (oks_app 1 (ok_var 2)) oks_skip))
  (oks_ret (ok_cb good_tuple (oka_cons (ok_vr 1) oka_nil)))))⟩
theorem sc_law_cell : FnScope ["_law_script", "_law_k"] ["_law_script", "_law_k"] (defScope s_law_cell) := ⟨rfl, rfl, rfl, by decide +kernel, rfl, by decide +kernel, by decide +kernel⟩
theorem ok_law_cell (T : Bt mg) (U : Bq mg) (F : Fun K "_law_cell" "_law_cell" s_law_cell f fd) (hm : mg "_law_cell" = some (.ref f)) : FD P w K mg base "_law_cell" 1 ["_law_script", "_law_k"] (spF RkF F_law_cell) :=
 fd5 (k := 0) F hm sc_law_cell rfl (fun _ _ _ _ _ _ us hl => match us, hl with | [_, _], _ => rfl) fun cdv A outer s H E hr => ⟨_,
  (pdss_cons (pds_if (pdt_ltV hr (pd_var 1 (pv 1)) (pd_len_ T.len (pda_cons (pd_var 0 (pv 0)) pda_nil))) (pdss_one (pds_ret (pd_mod (pd_ix (pd_var 0 (pv 0)) (pd_var 1 (pv 1))) (pd_pow pd_int pd_int)))) pdss_nil)
  (pdss_one (pds_ret pd_int))),
  (oks_seq (oks_if (ok_tst (ok_op good_lt (ok_vr 1) ((ok_cb good_len (oka_cons (ok_vr 0) oka_nil))).fr).fr) (oks_ret (ok_mod ((ok_op good_ix (ok_vr 0) (ok_vr 1))).er ((ok_pow ((ok_int _)).fr ((ok_int _)).fr)).fr)) oks_skip)
  (oks_ret (ok_int _)))⟩
theorem sc_law_held : FnScope ["_law_border", "_law_pair", "_law_x", "_law_y"] ["_law_border", "_law_pair"] (defScope s_law_held) := ⟨rfl, rfl, rfl, by decide +kernel, rfl, by decide +kernel, by decide +kernel⟩
theorem ok_law_held (T : Bt mg) (U : Bq mg) (F : Fun K "_law_held" "_law_held" s_law_held f fd) (hm : mg "_law_held" = some (.ref f)) : FD P w K mg base "_law_held" 1 ["_law_border", "_law_pair"] (spF RkF F_law_held) :=
 fd5 (k := 0) F hm sc_law_held rfl (fun _ _ _ _ _ _ us hl => match us, hl with | [_, _], _ => rfl) fun cdv A outer s H E hr => ⟨_,
  (pdss_cons (pds_for PassesOwn.never rfl (pdi_seq (pd_var 0 (pv 0))) (pdg_tp (n := 2) (pdgs_cons (pdg_nm 2 (by decide +kernel : List.Nodup (α := Str) ["_law_border", "_law_pair", "_law_x", "_law_y"])) (pdgs_cons (pdg_nm 3 (by decide +kernel : List.Nodup (α := Str) ["_law_border", "_law_pair", "_law_x", "_law_y"])) pdgs_nil))) (pdss_one (pds_if (PDW.pt (pdw_and (pdt_ge (pd_ix (pd_var 1 (pv 1)) pd_int) (pd_var 2 (pv 2))) (pdw_and1 (pdt_ge (pd_ix (pd_var 1 (pv 1)) pd_int) (pd_var 3 (pv 3)))))) (pdss_one (pds_ret pd_bl)) pdss_nil)))
  (pdss_one (pds_ret pd_bl))),
  (oks_seq (oks_for (oki_seq (ok_var 0)) (okg_tp (okgs_cons (okg_nm 2) (okgs_cons (okg_nm 3) okgs_nil))) (oks_if (ok_eand (ok_tst (ok_ge ((ok_op good_ix (ok_vr 1) ((ok_int _)).fr)).er (ok_vr 2)).fr) (ok_tst (ok_ge ((ok_op good_ix (ok_vr 1) ((ok_int _)).fr)).er (ok_vr 3)).fr)) (oks_ret (ok_bl _)) oks_skip))
  (oks_ret (ok_bl _)))⟩
theorem sc_law_whole : FnScope ["_law_found"] ["_law_found"] (defScope s_law_whole) := ⟨rfl, rfl, rfl, by decide +kernel, rfl, by decide +kernel, by decide +kernel⟩
theorem ok_law_whole (T : Bt mg) (U : Bq mg) (F : Fun K "_law_whole" "_law_whole" s_law_whole f fd) (hm : mg "_law_whole" = some (.ref f)) : FD P w K mg base "_law_whole" 1 ["_law_found"] (spF RkF F_law_whole) :=
 fd5 (k := 0) F hm sc_law_whole rfl (fun _ _ _ _ _ _ us hl => match us, hl with | [_], _ => rfl) fun cdv A outer s H E hr => ⟨_,
  (pdss_one (pds_ret (pd_and (pd_isinst_int T (pd_var 0 (pv 0))) (pd_one (pd_not (pd_isinst_bool T (pd_var 0 (pv 0)))))))),
  (oks_ret (ok_and ((ok_inst (ok_vr 0))).fr (ok_not ((ok_inst (ok_vr 0))).fr)))⟩
theorem sc_law_is_border : FnScope ["_law_found", "_law_pair", "_law_k"] ["_law_found"] (defScope s_law_is_border) := ⟨rfl, rfl, rfl, by decide +kernel, rfl, by decide +kernel, by decide +kernel⟩
theorem ok_law_is_border (T : Bt mg) (U : Bq mg) (F : Fun K "_law_is_border" "_law_is_border" s_law_is_border f fd) (hm : mg "_law_is_border" = some (.ref f)) (G_law_whole : FD P w K mg base "_law_whole" 1 ["_law_found"] (spF RkF F_law_whole)) : FD P w K mg base "_law_is_border" 2 ["_law_found"] (spF RkF F_law_is_border) :=
 fd5 (k := 1) F hm sc_law_is_border rfl (fun _ _ _ _ _ _ us hl => match us, hl with | [_], _ => rfl) fun cdv A outer s H E hr => ⟨_,
  (pdss_cons (pds_if (pdt_not (pdt_tru (pd_isinst_tuple T (pd_var 0 (pv 0))))) (pdss_one (pds_ret pd_bl)) pdss_nil)
  (pdss_cons (pds_for PassesOwn.never rfl (pdi_seq (pd_var 0 (pv 0))) (pdg_nm 1 (by decide +kernel : List.Nodup (α := Str) ["_law_found", "_law_pair", "_law_k"])) (pdss_one (pds_if (PDW.pt (pdw_or (pdt_not (pdt_tru (pd_isinst_tuple T (pd_var 1 (pv 1))))) (pdw_or (pdt_neT hr (pd_len_ T.len (pda_cons (pd_var 1 (pv 1)) pda_nil)) pd_int) (pdw_or (pdt_not (pdt_tru (pd_callF G_law_whole (hr.mono (by decide)) (pda_cons (pd_ix (pd_var 1 (pv 1)) pd_int) pda_nil)))) (pdw_or1 (pdt_not (pdt_tru (pd_callF G_law_whole (hr.mono (by decide)) (pda_cons (pd_ix (pd_var 1 (pv 1)) pd_int) pda_nil))))))))) (pdss_one (pds_ret pd_bl)) pdss_nil)))
  (pdss_cons (pds_for PassesOwn.never rfl (pdi_range2_ T.range (pda_cons pd_int (pda_cons (pd_len_ T.len (pda_cons (pd_var 0 (pv 0)) pda_nil)) pda_nil))) (pdg_nm 2 (by decide +kernel : List.Nodup (α := Str) ["_law_found", "_law_pair", "_law_k"])) (pdss_one (pds_if (PDW.pt (pdw_or (pdt_ge (pd_ix (pd_ix (pd_var 0 (pv 0)) (pd_sub (pd_var 2 (pv 2)) pd_int)) pd_int) (pd_ix (pd_ix (pd_var 0 (pv 0)) (pd_var 2 (pv 2))) pd_int)) (pdw_or1 (pdt_le (pd_ix (pd_ix (pd_var 0 (pv 0)) (pd_sub (pd_var 2 (pv 2)) pd_int)) pd_int) (pd_ix (pd_ix (pd_var 0 (pv 0)) (pd_var 2 (pv 2))) pd_int))))) (pdss_one (pds_ret pd_bl)) pdss_nil)))
  (pdss_one (pds_ret pd_bl))))),
  (oks_seq (oks_if (ok_enot (ok_tru ((ok_inst (ok_vr 0))).fr)) (oks_ret (ok_bl _)) oks_skip)
  (oks_seq (oks_for (oki_seq (ok_var 0)) (okg_nm 1) (oks_if (ok_eor (ok_enot (ok_tru ((ok_inst (ok_vr 1))).fr)) (ok_eor (ok_tst (ok_op good_eq ((ok_cb good_len (oka_cons (ok_vr 1) oka_nil))).fr ((ok_int _)).fr).fr) (ok_eor (ok_enot (ok_tru ((ok_call (okav_cons (ok_op good_ix (ok_vr 1) ((ok_int _)).fr) okav_nil))).fr)) (ok_enot (ok_tru ((ok_call (okav_cons (ok_op good_ix (ok_vr 1) ((ok_int _)).fr) okav_nil))).fr))))) (oks_ret (ok_bl _)) oks_skip))
  (oks_seq (oks_for (oki_rng2 (b := true) (oka_cons ((ok_int _)).fr (oka_cons ((ok_cb good_len (oka_cons (ok_vr 0) oka_nil))).fr oka_nil))) (okg_nm 2) (oks_if (ok_eor (ok_tst (ok_ge ((ok_op good_ix ((ok_op good_ix (ok_vr 0) ((ok_sub (ok_vr 2) ((ok_int _)).fr)).fr)).er ((ok_int _)).fr)).er ((ok_op good_ix ((ok_op good_ix (ok_vr 0) (ok_vr 2))).er ((ok_int _)).fr)).er).fr) (ok_tst (ok_le ((ok_op good_ix ((ok_op good_ix (ok_vr 0) ((ok_sub (ok_vr 2) ((ok_int _)).fr)).fr)).er ((ok_int _)).fr)).er ((ok_op good_ix ((ok_op good_ix (ok_vr 0) (ok_vr 2))).er ((ok_int _)).fr)).er).fr)) (oks_ret (ok_bl _)) oks_skip))
  (oks_ret (ok_bl _)))))⟩
theorem sc_law_drawn : FnScope ["_law_script", "_law_most", "_law_found", "_law_k", "_law_cell_here"] ["_law_script"] (defScope s_law_drawn) := ⟨rfl, rfl, rfl, by decide +kernel, rfl, by decide +kernel, by decide +kernel⟩
theorem ok_law_drawn (T : Bt mg) (U : Bq mg) (F : Fun K "_law_drawn" "_law_drawn" s_law_drawn f fd) (hm : mg "_law_drawn" = some (.ref f)) (G_law_cell : FD P w K mg base "_law_cell" 1 ["_law_script", "_law_k"] (spF RkF F_law_cell)) : FD P w K mg base "_law_drawn" 2 ["_law_script"] (spF RkF F_law_drawn) :=
 fd5 (k := 1) F hm sc_law_drawn rfl (fun _ _ _ _ _ _ us hl => match us, hl with | [_], _ => rfl) fun cdv A outer s H E hr => ⟨_,
  (pdss_cons (pds_st 1 (sc_law_drawn).nd (pd_ix (pd_lst (pda_cons pd_int (pda_cons pd_int (pda_cons (pd_pow pd_int pd_int) pda_nil)))) (pd_mod (pd_callF G_law_cell (hr.mono (by decide)) (pda_cons (pd_var 0 (pv 0)) (pda_cons pd_int pda_nil))) pd_int)))
  (pdss_cons (pds_st 2 (sc_law_drawn).nd (pd_lst pda_nil))
  (pdss_cons (pds_for PassesOwn.never rfl (pdi_range2_ T.range (pda_cons pd_int (pda_cons (pd_min_ T.min (pda_cons (pd_len_ T.len (pda_cons (pd_var 0 (pv 0)) pda_nil)) (pda_cons pd_int pda_nil))) pda_nil))) (pdg_nm 3 (by decide +kernel : List.Nodup (α := Str) ["_law_script", "_law_most", "_law_found", "_law_k", "_law_cell_here"])) (pdss_cons (pds_st 4 (sc_law_drawn).nd (pd_callF G_law_cell (hr.mono (by decide)) (pda_cons (pd_var 0 (pv 0)) (pda_cons (pd_var 3 (pv 3)) pda_nil))))
  (pdss_one (pds_expr (pd_m_append (pd_var 2 (pv 2)) (pd_tup (pda_cons (pd_mod (pd_var 4 (pv 4)) (pd_var 1 (pv 1))) (pda_cons (pd_mod (pd_fdiv (pd_var 4 (pv 4)) pd_int) (pd_var 1 (pv 1))) pda_nil))))))))
  (pdss_cons (pds_if (pdt_eqT hr (pd_mod (pd_callF G_law_cell (hr.mono (by decide)) (pda_cons (pd_var 0 (pv 0)) (pda_cons pd_int pda_nil))) pd_int) pd_int) (pdss_one (pds_st 2 (sc_law_drawn).nd (pd_addV (pd_var 2 (pv 2)) (pd_var 2 (pv 2))))) pdss_nil)
  (pdss_one (pds_ret (pd_var 2 (pv 2)))))))),
  (oks_seq (oks_asg 1 (ok_op good_ix ((ok_lst (okav_cons ((ok_int _)).fe (okav_cons ((ok_int _)).fe (okav_cons ((ok_pow ((ok_int _)).fr ((ok_int _)).fr)).fe okav_nil))))).fr ((ok_mod ((ok_call (okav_cons (ok_var 0) (okav_cons ((ok_int _)).fe okav_nil)))).fr ((ok_int _)).fr)).fr))
  (oks_seq (oks_asgO 2 (ok_lst okav_nil))
  (oks_seq (oks_for (oki_rng2 (b := true) (oka_cons ((ok_int _)).fr (oka_cons ((ok_cb good_min (oka_cons ((ok_cb good_len (oka_cons (ok_vr 0) oka_nil))).fr (oka_cons ((ok_int _)).fr oka_nil)))).fr oka_nil))) (okg_nm 3) (oks_seq (oks_asg 4 ((ok_call (okav_cons (ok_var 0) (okav_cons (ok_var 3) okav_nil)))).fe)
  (oks_app 2 ((ok_tup (okav_cons ((ok_mod (ok_vr 4) (ok_vr 1))).fe (okav_cons ((ok_mod ((ok_fdiv (ok_vr 4) ((ok_int _)).fr)).fr (ok_vr 1))).fe okav_nil)))).fe)))
  (oks_seq (oks_if (ok_tst (ok_op good_eq ((ok_mod ((ok_call (okav_cons (ok_var 0) (okav_cons ((ok_int _)).fe okav_nil)))).fr ((ok_int _)).fr)).fr ((ok_int _)).fr).fr) (oks_asgO 2 (ok_op good_add (ok_vr 2) (ok_vr 2))) oks_skip)
  (oks_retO 2)))))⟩
theorem sc_law_right : FnScope ["_law_found", "_law_pairs"] ["_law_found", "_law_pairs"] (defScope s_law_right) := ⟨rfl, rfl, rfl, by decide +kernel, rfl, by decide +kernel, by decide +kernel⟩
theorem ok_law_right (T : Bt mg) (U : Bq mg) (F : Fun K "_law_right" "_law_right" s_law_right f fd) (hm : mg "_law_right" = some (.ref f)) (G_law_is_border : FD P w K mg base "_law_is_border" 2 ["_law_found"] (spF RkF F_law_is_border)) (G_law_held : FD P w K mg base "_law_held" 1 ["_law_border", "_law_pair"] (spF RkF F_law_held)) : FD P w K mg base "_law_right" 3 ["_law_found", "_law_pairs"] (spF RkF F_law_right) :=
 fd5 (k := 2) F hm sc_law_right rfl (fun _ _ _ _ _ _ us hl => match us, hl with | [_, _], _ => rfl) fun cdv A outer s H E hr => ⟨_,
  (pdss_cons (pds_if (PDW.pt (pdw_or (pdt_not (pdt_tru (pd_callF G_law_is_border (hr.mono (by decide)) (pda_cons (pd_var 0 (pv 0)) pda_nil)))) (pdw_or1 (pdt_not (pdt_tru (pd_allV T.all (pda_cons (pd_lw (N' := ["_law_pair", "_law_pairs"]) (pick := [none, some 1]) (csc (N := ["_law_found", "_law_pairs"]) (esc := defScope s_law_right)) rfl (pdi_seq (pd_var 0 (pv 0))) (fun _ _ _ _ _ => (pdg_nm 0 (by decide +kernel : List.Nodup (α := Str) ["_law_pair", "_law_pairs"]))) (fun _ _ _ _ _ => pdf_nil) (fun _ _ _ _ _ => (pd_in hr (pd_var 0 (pv 0)) (pd_var 1 (pv 1))))) pda_nil))))))) (pdss_one (pds_ret pd_bl)) pdss_nil)
  (pdss_one (pds_ret (pd_allV T.all (pda_cons (pd_lw (N' := ["_law_pair", "_law_found"]) (pick := [none, some 0]) (csc (N := ["_law_found", "_law_pairs"]) (esc := defScope s_law_right)) rfl (pdi_seq (pd_var 1 (pv 1))) (fun _ _ _ _ _ => (pdg_nm 0 (by decide +kernel : List.Nodup (α := Str) ["_law_pair", "_law_found"]))) (fun _ _ _ _ _ => pdf_nil) (fun _ _ _ _ _ => (pd_callF G_law_held (hr.mono (by decide)) (pda_cons (pd_var 1 (pv 1)) (pda_cons (pd_var 0 (pv 0)) pda_nil))))) pda_nil))))),
  (oks_seq (oks_if (ok_eor (ok_enot (ok_tru ((ok_call (okav_cons (ok_var 0) okav_nil))).fr)) (ok_enot (ok_tru ((ok_cb good_bs (oka_cons ((ok_lc (oki_seqR (ok_vr 0)) (okc_nm 0) ok_true ((ok_op good_in (ok_vr 0) (ok_vr 1))).fe)).fr oka_nil))).fr))) (oks_ret (ok_bl _)) oks_skip)
  (oks_ret (ok_cb good_bs (oka_cons ((ok_lc (oki_seqR (ok_vr 1)) (okc_nm 0) ok_true ((ok_call (okav_cons (ok_var 1) (okav_cons (ok_var 0) okav_nil)))).fe)).fr oka_nil))))⟩
theorem sc_law : FnScope ["_law_script", "_law_pairs", "_law_handed", "_law_found"] ["_law_script"] (defScope s_law) := ⟨rfl, rfl, rfl, by decide +kernel, rfl, by decide +kernel, by decide +kernel⟩
theorem ok_law (T : Bt mg) (U : Bq mg) (F : Fun K "law" "law" s_law f fd) (G_law_drawn : FD P w K mg base "_law_drawn" 2 ["_law_script"] (spF RkF F_law_drawn)) (G_least_pairs : FD P w K mg base "least_pairs" 1 ["pairs"] (spF RkF F_least_pairs)) (G_law_right : FD P w K mg base "_law_right" 3 ["_law_found", "_law_pairs"] (spF RkF F_law_right)) : FnOk P w K mg base CX0 4 f fd ["_law_script"] (upP K (spF RkF F_law)) :=
 fn5 (k := 3) F sc_law rfl fun cdv A outer s H E hr => ⟨_,
  (pdss_cons (pds_st 1 (sc_law).nd (pd_callF G_law_drawn (hr.mono (by decide)) (pda_cons (pd_var 0 (pv 0)) pda_nil)))
  (pdss_cons (pds_st 2 (sc_law).nd (pd_list_ T.list (pda_cons (pd_var 1 (pv 1)) pda_nil)))
  (pdss_cons (pds_st 3 (sc_law).nd (pd_callF G_least_pairs (hr.mono (by decide)) (pda_cons (pd_var 2 (pv 2)) pda_nil)))
  (pdss_cons (pds_if (PDW.pt (pdw_or (pdt_neT hr (pd_var 2 (pv 2)) (pd_var 1 (pv 1))) (pdw_or1 (pdt_not (pdt_tru (pd_callF G_law_right (hr.mono (by decide)) (pda_cons (pd_var 3 (pv 3)) (pda_cons (pd_var 1 (pv 1)) pda_nil)))))))) (pdss_one (pds_ret pd_bl)) pdss_nil)
  (pdss_cons (pds_expr (pd_m_append (pd_var 2 (pv 2)) (pd_tup (pda_cons pd_int (pda_cons pd_int pda_nil)))))
  (pdss_cons (pds_if (pdt_neT hr (pd_callF G_least_pairs (hr.mono (by decide)) (pda_cons (pd_var 2 (pv 2)) pda_nil)) (pd_tup (pda_cons (pd_tup (pda_cons pd_int (pda_cons pd_int pda_nil))) pda_nil))) (pdss_one (pds_ret pd_bl)) pdss_nil)
  (pdss_cons (pds_expr (pd_m_pop (pd_var 2 (pv 2))))
  (pdss_one (pds_ret (pd_eqT hr (pd_callF G_least_pairs (hr.mono (by decide)) (pda_cons (pd_var 2 (pv 2)) pda_nil)) (pd_var 3 (pv 3)))))))))))),
  (oks_seq (oks_asg 1 ((ok_call (okav_cons (ok_var 0) okav_nil))).fe)
  (oks_seq (oks_asgO 2 (ok_cb good_list (oka_cons (ok_vr 1) oka_nil)))
  (oks_seq (oks_asg 3 ((ok_callP (oka_cons (ok_vr 2) oka_nil))).fe)
  (oks_seq (oks_if (ok_eor (ok_tst (ok_op good_eq (ok_vr 2) (ok_vr 1)).fr) (ok_enot (ok_tru ((ok_call (okav_cons (ok_var 3) (okav_cons (ok_var 1) okav_nil)))).fr))) (oks_ret (ok_bl _)) oks_skip)
  (oks_seq (oks_app 2 ((ok_tup (okav_cons ((ok_int _)).fe (okav_cons ((ok_int _)).fe okav_nil)))).fe)
  (oks_seq (oks_if (ok_tst (ok_op good_eq ((ok_callP (oka_cons (ok_vr 2) oka_nil))).fr ((ok_tup (okav_cons ((ok_tup (okav_cons ((ok_int _)).fe (okav_cons ((ok_int _)).fe okav_nil)))).fe okav_nil))).fr).fr) (oks_ret (ok_bl _)) oks_skip)
  (oks_seq (oks_pop 2)
  (oks_ret (ok_op good_eq ((ok_callP (oka_cons (ok_vr 2) oka_nil))).fr (ok_vr 3))))))))))⟩
end
theorem all_mk {l : PySem.W.OpenLaw} {w : World} {K : PySem.W.Frag} {h : Heap} {mg : Str -> Option Value} {fa f0 f1 f2 f3 f4 f5 f6 f7 : Addr} (X : K.In h) (G : h.Ns mainGlobals mg) (hfa : mg "law" = some (.ref fa))
  {od0 an0 od1 an1 od2 an2 od3 an3 od4 an4 od5 an5 od6 an6 od7 an7 : Option Addr} {sl0 sl1 sl2 sl3 sl4 sl5 sl6 sl7 : Array (Option Value)} {oc0 kV0 dc0 pm0 cd0 ct0 oc1 kV1 dc1 pm1 cd1 ct1 oc2 kV2 dc2 pm2 cd2 ct2 oc3 kV3 dc3 pm3 cd3 ct3 oc4 kV4 dc4 pm4 cd4 ct4 oc5 kV5 dc5 pm5 cd5 ct5 oc6 kV6 dc6 pm6 cd6 ct6 oc7 kV7 dc7 pm7 cd7 ct7 : Value}
  (a0 : PySem.W.nsIn K mainGlobals "least_pairs" = some (some (.ref f0))) (l0 : K.lookup f0 = some ⟨oc0, od0, .func (PySem.W.fnOf "least_pairs" "least_pairs" (defArgs s_least_pairs) (defBody s_least_pairs) (defScope s_least_pairs) .none kV0 dc0 pm0 an0 cd0 ct0), sl0⟩) (c0 : PySem.W.codeIn K cd0 "least_pairs" = true) (k0 : PySem.W.keepIn K (.ref f0) = true)
  (a1 : PySem.W.nsIn K mainGlobals "_law_cell" = some (some (.ref f1))) (l1 : K.lookup f1 = some ⟨oc1, od1, .func (PySem.W.fnOf "_law_cell" "_law_cell" (defArgs s_law_cell) (defBody s_law_cell) (defScope s_law_cell) .none kV1 dc1 pm1 an1 cd1 ct1), sl1⟩) (c1 : PySem.W.codeIn K cd1 "_law_cell" = true) (k1 : PySem.W.keepIn K (.ref f1) = true)
  (a2 : PySem.W.nsIn K mainGlobals "_law_held" = some (some (.ref f2))) (l2 : K.lookup f2 = some ⟨oc2, od2, .func (PySem.W.fnOf "_law_held" "_law_held" (defArgs s_law_held) (defBody s_law_held) (defScope s_law_held) .none kV2 dc2 pm2 an2 cd2 ct2), sl2⟩) (c2 : PySem.W.codeIn K cd2 "_law_held" = true) (k2 : PySem.W.keepIn K (.ref f2) = true)
  (a3 : PySem.W.nsIn K mainGlobals "_law_whole" = some (some (.ref f3))) (l3 : K.lookup f3 = some ⟨oc3, od3, .func (PySem.W.fnOf "_law_whole" "_law_whole" (defArgs s_law_whole) (defBody s_law_whole) (defScope s_law_whole) .none kV3 dc3 pm3 an3 cd3 ct3), sl3⟩) (c3 : PySem.W.codeIn K cd3 "_law_whole" = true) (k3 : PySem.W.keepIn K (.ref f3) = true)
  (a4 : PySem.W.nsIn K mainGlobals "_law_is_border" = some (some (.ref f4))) (l4 : K.lookup f4 = some ⟨oc4, od4, .func (PySem.W.fnOf "_law_is_border" "_law_is_border" (defArgs s_law_is_border) (defBody s_law_is_border) (defScope s_law_is_border) .none kV4 dc4 pm4 an4 cd4 ct4), sl4⟩) (c4 : PySem.W.codeIn K cd4 "_law_is_border" = true) (k4 : PySem.W.keepIn K (.ref f4) = true)
  (a5 : PySem.W.nsIn K mainGlobals "_law_drawn" = some (some (.ref f5))) (l5 : K.lookup f5 = some ⟨oc5, od5, .func (PySem.W.fnOf "_law_drawn" "_law_drawn" (defArgs s_law_drawn) (defBody s_law_drawn) (defScope s_law_drawn) .none kV5 dc5 pm5 an5 cd5 ct5), sl5⟩) (c5 : PySem.W.codeIn K cd5 "_law_drawn" = true) (k5 : PySem.W.keepIn K (.ref f5) = true)
  (a6 : PySem.W.nsIn K mainGlobals "_law_right" = some (some (.ref f6))) (l6 : K.lookup f6 = some ⟨oc6, od6, .func (PySem.W.fnOf "_law_right" "_law_right" (defArgs s_law_right) (defBody s_law_right) (defScope s_law_right) .none kV6 dc6 pm6 an6 cd6 ct6), sl6⟩) (c6 : PySem.W.codeIn K cd6 "_law_right" = true) (k6 : PySem.W.keepIn K (.ref f6) = true)
  (a7 : PySem.W.nsIn K mainGlobals "law" = some (some (.ref f7))) (l7 : K.lookup f7 = some ⟨oc7, od7, .func (PySem.W.fnOf "law" "law" (defArgs s_law) (defBody s_law) (defScope s_law) .none kV7 dc7 pm7 an7 cd7 ct7), sl7⟩) (c7 : PySem.W.codeIn K cd7 "law" = true) (k7 : PySem.W.keepIn K (.ref f7) = true)
  (y0 : PySem.W.nsIn K mainGlobals "set" = some none) (y1 : PySem.W.nsIn K mainGlobals "zip" = some none) (y2 : PySem.W.nsIn K mainGlobals "enumerate" = some none)
  (z0 : PySem.W.nsIn K mainGlobals "len" = some none) (z1 : PySem.W.nsIn K mainGlobals "range" = some none) (z2 : PySem.W.nsIn K mainGlobals "any" = some none) (z3 : PySem.W.nsIn K mainGlobals "all" = some none) (z4 : PySem.W.nsIn K mainGlobals "sorted" = some none) (z5 : PySem.W.nsIn K mainGlobals "isinstance" = some none) (z6 : PySem.W.nsIn K mainGlobals "bool" = some none) (z7 : PySem.W.nsIn K mainGlobals "int" = some none) (z8 : PySem.W.nsIn K mainGlobals "str" = some none) (z9 : PySem.W.nsIn K mainGlobals "list" = some none) (z10 : PySem.W.nsIn K mainGlobals "tuple" = some none) (z11 : PySem.W.nsIn K mainGlobals "max" = some none) (z12 : PySem.W.nsIn K mainGlobals "min" = some none) :
  ∃ fd : FuncData, (∀ (s : Shared) (v : Value), BindsTo s fd ⟨[v], []⟩ [("_law_script", v)]) /\ ∀ base : Heap, K.In base -> base.Ns mainGlobals mg -> FnOk l.prog w K mg base CX0 4 fa fd ["_law_script"] (upP K (spF RkF F_law)) := by
 have e := hfa.symm.trans (PySem.W.mg_of X G a7)
 cases e
 have T : Bt mg := ⟨PySem.W.mg_none_of X G z0, PySem.W.mg_none_of X G z1, PySem.W.mg_none_of X G z2, PySem.W.mg_none_of X G z3, PySem.W.mg_none_of X G z4, PySem.W.mg_none_of X G z5, PySem.W.mg_none_of X G z6, PySem.W.mg_none_of X G z7, PySem.W.mg_none_of X G z8, PySem.W.mg_none_of X G z9, PySem.W.mg_none_of X G z10, PySem.W.mg_none_of X G z11, PySem.W.mg_none_of X G z12⟩
 have U : Bq mg := ⟨PySem.W.mg_none_of X G y0, PySem.W.mg_none_of X G y1, PySem.W.mg_none_of X G y2⟩
 refine ⟨PySem.W.fnOf "law" "law" (defArgs s_law) (defBody s_law) (defScope s_law) .none kV7 dc7 pm7 an7 cd7 ct7, fun s v => .of_eq rfl, fun base _ _ => ?_⟩
 have G_least_pairs := ok_least_pairs (P := l.prog) (w := w) (base := base) T U (fun_mk (st := s_least_pairs) l0 c0 k0) (PySem.W.mg_of X G a0)
 have G_law_cell := ok_law_cell (P := l.prog) (w := w) (base := base) T U (fun_mk (st := s_law_cell) l1 c1 k1) (PySem.W.mg_of X G a1)
 have G_law_held := ok_law_held (P := l.prog) (w := w) (base := base) T U (fun_mk (st := s_law_held) l2 c2 k2) (PySem.W.mg_of X G a2)
 have G_law_whole := ok_law_whole (P := l.prog) (w := w) (base := base) T U (fun_mk (st := s_law_whole) l3 c3 k3) (PySem.W.mg_of X G a3)
 have G_law_is_border := ok_law_is_border (P := l.prog) (w := w) (base := base) T U (fun_mk (st := s_law_is_border) l4 c4 k4) (PySem.W.mg_of X G a4) G_law_whole
 have G_law_drawn := ok_law_drawn (P := l.prog) (w := w) (base := base) T U (fun_mk (st := s_law_drawn) l5 c5 k5) (PySem.W.mg_of X G a5) G_law_cell
 have G_law_right := ok_law_right (P := l.prog) (w := w) (base := base) T U (fun_mk (st := s_law_right) l6 c6 k6) (PySem.W.mg_of X G a6) G_law_is_border G_law_held
 exact ok_law (P := l.prog) (w := w) (base := base) T U (fun_mk (st := s_law) l7 c7 k7) G_law_drawn G_least_pairs G_law_right
theorem walk {l : PySem.W.OpenLaw} {q : Program} {loose : List Str} {XP : (Str -> Option Value) -> Heap -> Prop} {YP : World -> Heap -> Prop} {d : DefRec} {K : Params -> PySem.W.Frag} (hn : l.most = some 63) (hdf : d.params.defaults = [])
  (hY : ∀ (w : World) (h : Heap), YP w h -> (K w.params).In h)
  (F : ∀ (w : World) (mg : Str -> Option Value) (fa : Addr) (h : Heap), (K w.params).In h -> h.Ns mainGlobals mg -> mg d.name = some (.ref fa) ->
   ∃ fd : FuncData, (∀ (s : Shared) (u : Value), BindsTo s fd ⟨[u], []⟩ [("_law_script", u)]) /\ ∀ base : Heap, (K w.params).In base -> base.Ns mainGlobals mg -> FnOk l.prog w (K w.params) mg base CX0 4 fa fd ["_law_script"] (upP (K w.params) (spF RkF F_law))) :
  PySem.W.WalkO q loose XP YP l.row.toRowW d [] (fun f vs => PySem.call f vs) :=
 L2.walk_of (n := 63) (k := 4) (x := "_law_script") (CX := fun _ => CX0) (sp := fun w => upP (K w.params) (spF RkF F_law)) hn (by decide) hdf ⟨rfl, by decide, by decide⟩ hY F (fun _ _ a ns hl hO hS => law5 law_true hO hS hl) fun _ _ _ _ _ z => z
end K12
open PySem PySem.W PyProof.Rows
set_option maxRecDepth 100000 in
set_option maxHeartbeats 0 in
theorem PySem.Challenge.cw_purseborder_k12_least_pairs_holds : PySem.Challenge.rw_purseborder_k12_least_pairs.Holds := by
 w_on; o_law; k_head; (case hw => w_witness2)
 k_fill
 refine K12.walk (l := PySem.Challenge.rw_purseborder_k12_least_pairs) rfl rfl (fun w h Y => PySem.W.kIn_of Y) ?F
 case F =>
  intro w mg fa h KX G hmg
  refine' K12.all_mk KX G hmg ?a0 ?l0 ?c0 ?k0 ?a1 ?l1 ?c1 ?k1 ?a2 ?l2 ?c2 ?k2 ?a3 ?l3 ?c3 ?k3 ?a4 ?l4 ?c4 ?k4 ?a5 ?l5 ?c5 ?k5 ?a6 ?l6 ?c6 ?k6 ?a7 ?l7 ?c7 ?k7 ?y0 ?y1 ?y2 ?z0 ?z1 ?z2 ?z3 ?z4 ?z5 ?z6 ?z7 ?z8 ?z9 ?z10 ?z11 ?z12
  (case a0 => k_is)
  (case l0 => k_is)
  (case c0 => k_is)
  (case k0 => k_is)
  (case a1 => k_is)
  (case l1 => k_is)
  (case c1 => k_is)
  (case k1 => k_is)
  (case a2 => k_is)
  (case l2 => k_is)
  (case c2 => k_is)
  (case k2 => k_is)
  (case a3 => k_is)
  (case l3 => k_is)
  (case c3 => k_is)
  (case k3 => k_is)
  (case a4 => k_is)
  (case l4 => k_is)
  (case c4 => k_is)
  (case k4 => k_is)
  (case a5 => k_is)
  (case l5 => k_is)
  (case c5 => k_is)
  (case k5 => k_is)
  (case a6 => k_is)
  (case l6 => k_is)
  (case c6 => k_is)
  (case k6 => k_is)
  (case a7 => k_is)
  (case l7 => k_is)
  (case c7 => k_is)
  (case k7 => k_is)
  (case y0 => k_is)
  (case y1 => k_is)
  (case y2 => k_is)
  (case z0 => k_is)
  (case z1 => k_is)
  (case z2 => k_is)
  (case z3 => k_is)
  (case z4 => k_is)
  (case z5 => k_is)
  (case z6 => k_is)
  (case z7 => k_is)
  (case z8 => k_is)
  (case z9 => k_is)
  (case z10 => k_is)
  (case z11 => k_is)
  (case z12 => k_is)
#print axioms PySem.Challenge.cw_purseborder_k12_least_pairs_holds
