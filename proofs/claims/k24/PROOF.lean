import PyProof.Rows.All
import Wide.All
import OpenK.AllK
import Wide.FinOn
import Lean
import PyProof.EqAt
import PyProof.EqKinds
import PyProof.TupleCall
import PySem.SetOps
import PyProof.SetScanFacts
import PyProof.TupleKey
import PyProof.SetKind
import PyProof.SetRoads
import PyProof.IsRules
import PyProof.ZipIter
import PyProof.TupleIter
import PyProof.ListMulRoad
import PyProof.FactsAll.tuple
import PyProof.ListRange
import PyProof.Draws
import PyProof.EnumFor
import PyProof.Rows.ListMul
import PyProof.AutoListH
import PyProof.ExcInit
import PyProof.ExcClass2
import PyProof.InstStore
import PyProof.InstStoreFacts
import PyProof.ExcArgsOwn
import PyProof.IsInstance
import PyProof.IsInstanceH
import PyProof.StationsW
import PyProof.Rows.CatchOwn
import PyProof.FactsAll.dict_1
import PySem.Challenge.RW_purseborder_k24_runs_begun_elsewhere
set_option Elab.async false
set_option linter.all false
set_option maxRecDepth 100000
noncomputable section
namespace L2
open PySem PySem.Spec PyProof.Rows
abbrev Key:=Sum Int Str
noncomputable def keyIs:Key->Value->Bool
 | .inl k,v=>Value.isInt k v
 | .inr x,v=>Value.isStrOf x v
noncomputable def keyH (w:World):Key->Int
 | .inl k=>hashInt k
 | .inr x=>hashStr w x
theorem keyIs_shape:∀ {k:Key}{v:Value},keyIs k v=true->(∃ i t,k=Sum.inl i/\v=Value.int i t)\/(∃ x t,k=Sum.inr x/\v=Value.str x t)
 | .inl i,v,h=>by
  obtain⟨t,e⟩:=Value.isInt_shape (k:=i) (v:=v) h
  exact .inl ⟨i,t,rfl,e⟩
 | .inr x,v,h=>by
  obtain⟨t,e⟩:=Value.isStrOf_shape (x:=x) (v:=v) h
  exact .inr ⟨x,t,rfl,e⟩
theorem key_ll (a b:Int):decide ((Sum.inl a:Key)=Sum.inl b)=(a == b):=by
 by_cases e:a=b
 ·subst e;simp
 ·have h:¬ (Sum.inl a:Key)=Sum.inl b:=λ q=>e (Sum.inl.inj q)
  rw[decide_eq_false h]
  exact (beq_eq_false_iff_ne.mpr e).symm
theorem key_rr (a b:Str):decide ((Sum.inr a:Key)=Sum.inr b)=decide (a=b):=by
 by_cases e:a=b
 ·subst e;simp
 ·have h:¬ (Sum.inr a:Key)=Sum.inr b:=λ q=>e (Sum.inr.inj q)
  rw[decide_eq_false h,decide_eq_false e]
theorem key_lr (a:Int) (b:Str):decide ((Sum.inl a:Key)=Sum.inr b)=false:=decide_eq_false (λ q=>nomatch q)
theorem key_rl (a:Str) (b:Int):decide ((Sum.inr a:Key)=Sum.inl b)=false:=decide_eq_false (λ q=>nomatch q)
noncomputable def mixKind (prog:Program) (w:World):PySem.KeyKind prog w Key where
 is:=keyIs
 hash:=keyH w
 inj:=λ v a b ha hb=>by
  rcases keyIs_shape ha with ⟨i,t,rfl,rfl⟩ | ⟨x,t,rfl,rfl⟩
  ·rcases keyIs_shape hb with ⟨j,u,rfl,e⟩ | ⟨y,u,rfl,e⟩
   ·injection e with e1 _;rw[e1]
   ·exact nomatch e
  ·rcases keyIs_shape hb with ⟨j,u,rfl,e⟩ | ⟨y,u,rfl,e⟩
   ·exact nomatch e
   ·injection e with e1 _;rw[e1]
 byValue:=λ k v h=>by
  rcases keyIs_shape h with ⟨i,t,rfl,rfl⟩ | ⟨x,t,rfl,rfl⟩ <;> rfl
 pyHash:=λ hv h=>by
  rcases keyIs_shape hv with ⟨i,t,rfl,rfl⟩ | ⟨x,t,rfl,rfl⟩
  ·exact wpAny_pyHash_int h
  ·exact wpAny_pyHash_str h
 eqBool:=λ hu hv h=>by
  rcases keyIs_shape hu with ⟨i,t,rfl,rfl⟩ | ⟨x,t,rfl,rfl⟩
  ·rcases keyIs_shape hv with ⟨j,u,rfl,rfl⟩ | ⟨y,u,rfl,rfl⟩
   ·rw[key_ll] at h;exact wpAny_eqBool_int h
   ·rw[key_lr] at h;exact SeqAt.EqAt.int_str i t y u _ _ _ _ h
  ·rcases keyIs_shape hv with ⟨j,u,rfl,rfl⟩ | ⟨y,u,rfl,rfl⟩
   ·rw[key_rl] at h;exact SeqAt.EqAt.str_int x t j u _ _ _ _ h
   ·rw[key_rr] at h;exact wpAny_eqBool_str h
 «strs»:=λ k x t v h=>by
  rcases keyIs_shape h with ⟨i,u,rfl,e⟩ | ⟨y,u,rfl,e⟩
  ·exact nomatch e
  ·injection e with e1 _
   subst e1
   cases v <;> rfl
end L2
namespace L2
open PySem PySem.Spec PyProof.Rows
inductive V where
 | non | bl (b:Bool) | int (i:Int) | str (x:Str) | byt (b:Array UInt8) | flt (b:UInt64) | ref (a:Addr) | ty (n:String)
 deriving DecidableEq
noncomputable def RelV:V->Value->Prop
 | .non,u=>u=Value.none
 | .bl b,u=>u=Value.bool b
 | .int i,u=>∃ t,u=Value.int i t
 | .str x,u=>∃ t,u=Value.str x t
 | .byt b,u=>∃ t,u=Value.bytes b t
 | .flt b,u=>∃ t,u=Value.float b t
 | .ref a,u=>u=Value.ref a
 | .ty n,u=>u=Value.type n
abbrev Vals:List V->List Value->Prop:=Paired RelV
theorem Vals.length {xs:List V}{us:List Value}(r:Vals xs us):xs.length=us.length:=Paired.length r
theorem Vals.get:∀ {xs:List V}{us:List Value}{i:Nat}{x:V},Vals xs us->xs[i]?=some x->∃ u,us[i]?=some u/\RelV x u
 | _,_,_,_,.nil,e=>by simp at e
 | _,_,0,_,.cons r _,e=>by simp at e;subst e;exact⟨_,rfl,r⟩
 | _,_,i+1,x,.cons _ t,e=>by
  obtain⟨u,h1,h2⟩:=Vals.get (i:=i) (x:=x) t (by simpa using e)
  exact⟨u,by simpa using h1,h2⟩
theorem Vals.set {x:V}{u:Value}(r:RelV x u):∀ {xs:List V}{us:List Value}(i:Nat),Vals xs us->Vals (xs.set i x) (us.set i u)
 | _,_,_,.nil=>.nil
 | _,_,0,.cons _ t=>.cons r t
 | _,_,i+1,.cons q t=>.cons q (Vals.set r i t)
theorem Vals.append:∀ {xs ys:List V}{us ws:List Value},Vals xs us->Vals ys ws->Vals (xs++ys) (us++ws)
 | _,_,_,_,.nil,s=>s
 | _,_,_,_,.cons r t,s=>.cons r (Vals.append t s)
theorem Vals.take:∀ {xs:List V}{us:List Value}(n:Nat),Vals xs us->Vals (xs.take n) (us.take n)
 | _,_,0,_=>.nil
 | _,_,_+1,.nil=>.nil
 | _,_,n+1,.cons r t=>.cons r (Vals.take n t)
theorem Vals.drop:∀ {xs:List V}{us:List Value}(n:Nat),Vals xs us->Vals (xs.drop n) (us.drop n)
 | _,_,0,r=>r
 | _,_,_+1,.nil=>.nil
 | _,_,n+1,.cons _ t=>Vals.drop n t
noncomputable def RelO:Option V->Option Value->Prop
 | some v,some u=>RelV v u
 | none,none=>True
 | _,_=>False
def KV {κ:Type}:List (κ × V)->List (κ × Value)->Prop:=Paired λ(p:κ × V) (q:κ × Value)=>p.1=q.1/\RelV p.2 q.2
noncomputable def kV:Key->V
 | .inl i=>.int i
 | .inr x=>.str x
inductive HO where
 /-- a list -/
 | lst (xs:List V)
 /-- a tuple (never changes) -/
 | tup (xs:List V)
 /-- a dict whose keys are ints and texts;one whose keys are tuples of ints and texts (the empty one is both) -/
 | dK (kvs:List (Key×V)) | dT (kvs:List (List Key×V))
 /-- a set of ints: its members,its size -/
 | set (S:Int->Bool) (n:Nat)
 /-- an instance of the class at C,its dict at dx,its attributes -/
 | ins (C dx:Addr) (fs:List (Str×V))
 /-- the dict of the instance at x -/
 | own (x:Addr)
 /-- the dict of an exception -/
 | xd (fs:List (Str×V))
 /-- a bound method,f of x -/
 | met (f x:Addr)
 /-- a range object lo,lo+1,.. below hi -/
 | rng (lo hi:Int)
 /-- a thing that is known to the object (the script;a dict while a loop walks it): read,never written while it is so -/
 | frz (o:Obj) (u:HO)
 /-- a code object's table -/
 | tbl (ps:Array Value)
 /-- any other thing,by what is true of its one object (a def of one's own: SetO a S n:=HO.ext λ h=>..) -/
 | ext (φ:Heap->Prop)
abbrev Hp:=Addr->Option HO
noncomputable def upd (H:Hp) (a:Addr) (o:HO):Hp:=λ b=>if b=a then some o else H b
theorem upd_same {H:Hp}{a:Addr}{o:HO}:upd H a o a=some o:=by unfold upd;rw[if_pos rfl]
theorem upd_ne {H:Hp}{a b:Addr}{o:HO}(h:b≠a):upd H a o b=H b:=by unfold upd;rw[if_neg h]
theorem ne_of {H:Hp}{a b:Addr}{o u:HO}(h:H a=some o) (h':H b=some u) (d:o≠u):a≠b:=by
 intro e;subst e;rw[h] at h';exact d (Option.some.inj h')
theorem ne_of_none {H:Hp}{a b:Addr}{o:HO}(h:H a=some o) (h':H b=none):a≠b:=by
 intro e;subst e;rw[h] at h';cases h'
section
variable (P:Program) (w:World)
noncomputable def ObjOk (H:Hp) (h:Heap) (a:Addr):HO->Prop
 | .lst xs=>xs.length<=sizeLine/\∃ (its:List Value) (n:Nat),Vals xs its/\h.get? a=some { cls:=.type "list",data:=.seq its.toArray n }
 | .tup xs=>xs.length<=sizeLine/\∃ its:List Value,Vals xs its/\IsTup h a its.toArray
 | .dK kvs=>kvs.length<=sizeLine/\(a == sysModules)=false/\∃ vs,KV kvs vs/\h.DictOf (mixKind P w) a vs
 | .dT kvs=>kvs.length<=sizeLine/\(a == sysModules)=false/\∃ xs:List (List Key×Addr×Value),
   Paired (λ(p:List Key×V) (q:List Key×Addr×Value)=>p.1=q.1/\H q.2.1=some (.tup (p.1.map kV))/\RelV p.2 q.2.2) kvs xs/\
   ∃ o es ep,h.get? a=some o/\o.ExactDict/\o.data=.dict es ep/\es.toList=xs.map (entryOfKey (tupleKind (mixKind P w)))/\(xs.map (·.1)).Nodup
 | .set S n=>h.SetOf (intKind P w) a S n
 | .ins C dx fs=>H dx=some (.own a)/\fs.length<=1000/\dx≠a/\h.get? a=some (PySem.W.instObj C dx)/\
   ∃ mA,h.Ns1 dx mA/\(∀ f,RelO (fs.lookup f) (mA f))/\PySem.Within mA (fs.map (·.1))
 | .own _=>∃ o,h.get? a=some o
 | .xd fs=>∃ mA,h.Ns1 a mA/\∀ f,RelO (fs.lookup f) (mA f)
 | .rng lo hi=>∃ t u v,h.get? a=some { cls:=.type "range",data:=.fields #[.int lo t,.int hi u,.int 1 v] }
 | .frz o u=>h.get? a=some o/\ObjOk H h a u
 | .tbl ps=>h.get? a=some { cls:=.none,data:=.fields ps }
 | .met f x=>h.get? a=some (PySem.W.methodObj (.ref f) (.ref x))
 | .ext φ=>φ h/\(∃ o,h.get? a=some o)/\∀ h1 h2:Heap,φ h1->(∀ o,h1.get? a=some o->h2.get? a=some o)->φ h2
def HOk (H:Hp) (h:Heap):Prop:=∀ a o,H a=some o->ObjOk P w H h a o
end
section
variable {P:Program}{w:World}{H H':Hp}{h h':Heap}{a:Addr}{o:HO}
theorem ObjOk.lt (x:ObjOk P w H h a o):a<h.objs.size:=by
 cases o with
 | lst xs=>obtain⟨_,_,_,_,e⟩:=x;exact Heap.lt_size e
 | tup xs=>obtain⟨_,_,_,p⟩:=x;exact p.lt
 | dK kvs=>obtain⟨_,_,_,_,o,_,_,e,_⟩:=x;exact Heap.lt_size e
 | dT kvs=>obtain⟨_,_,_,_,o,_,_,e,_⟩:=x;exact Heap.lt_size e
 | set S n=>obtain⟨o,_,_,_,e,_⟩:=x;exact Heap.lt_size e
 | ins C dx fs=>obtain⟨_,_,_,e,_⟩:=x;exact Heap.lt_size e
 | own y=>obtain⟨_,e⟩:=x;exact Heap.lt_size e
 | xd fs=>obtain⟨_,⟨_,_,_,e,_⟩,_⟩:=x;exact Heap.lt_size e
 | rng lo hi=>obtain⟨_,_,_,e⟩:=x;exact Heap.lt_size e
 | frz ob u=>obtain⟨e,_⟩:=x;exact Heap.lt_size e
 | tbl ps=>exact Heap.lt_size (show h.get? a=some _ from x)
 | met f y=>exact Heap.lt_size (show h.get? a=some _ from x)
 | ext φ=>obtain⟨_,⟨_,e⟩,_⟩:=x;exact Heap.lt_size e
theorem Paired.mapP {α β:Type}{F G:α->β->Prop}:∀ {l₁:List α}{l₂:List β},Paired F l₁ l₂->(∀ a b,F a b->G a b)->Paired G l₁ l₂
 | _,_,.nil,_=>.nil
 | _,_,.cons r t,f=>.cons (f _ _ r) (Paired.mapP t f)
theorem ObjOk.stay (x:ObjOk P w H h a o) (k:∀ b u,(b=a\/H b=some (.own a))->h.get? b=some u->h'.get? b=some u)
  (ho:∀ b,H b=some (.own a)->H' b=some (.own a)) (ht:∀ b xs,H b=some (.tup xs)->H' b=some (.tup xs)):ObjOk P w H' h' a o:=by
 induction o with
 | lst xs=>obtain⟨z,its,n,r,e⟩:=x;exact⟨z,its,n,r,k _ _ (.inl rfl) e⟩
 | tup xs=>obtain⟨z,its,r,ob,e,c⟩:=x;exact⟨z,its,r,ob,k _ _ (.inl rfl) e,c⟩
 | dK kvs=>obtain⟨z,y,vs,r,ob,es,ep,e,c⟩:=x;exact⟨z,y,vs,r,ob,es,ep,k _ _ (.inl rfl) e,c⟩
 | dT kvs=>
  obtain⟨z,y,xs,r,ob,es,ep,e,c⟩:=x
  exact⟨z,y,xs,Paired.mapP r λ p q z=>⟨z.1,ht _ _ z.2.1,z.2.2⟩,ob,es,ep,k _ _ (.inl rfl) e,c⟩
 | set S n=>obtain⟨ob,es,ep,t,e,c⟩:=x;exact⟨ob,es,ep,t,k _ _ (.inl rfl) e,c⟩
 | ins C dx fs=>
  obtain⟨d,z,ne,e,mA,⟨od,es,ep,e2,c⟩,r⟩:=x
  exact⟨ho _ d,z,ne,k _ _ (.inl rfl) e,mA,⟨od,es,ep,k _ _ (.inr d) e2,c⟩,r⟩
 | own y=>obtain⟨ob,e⟩:=x;exact⟨ob,k _ _ (.inl rfl) e⟩
 | xd fs=>obtain⟨mA,⟨od,es,ep,e,c⟩,r⟩:=x;exact⟨mA,⟨od,es,ep,k _ _ (.inl rfl) e,c⟩,r⟩
 | rng lo hi=>obtain⟨t,u,v,e⟩:=x;exact⟨t,u,v,k _ _ (.inl rfl) e⟩
 | frz ob u ih=>obtain⟨e,q⟩:=x;exact⟨k _ _ (.inl rfl) e,ih q⟩
 | tbl ps=>
  have e:h.get? a=some { cls:=.none,data:=.fields ps }:=x
  show h'.get? a=some { cls:=.none,data:=.fields ps }
  exact k a _ (.inl rfl) e
 | met f y=>
  have e:h.get? a=some (PySem.W.methodObj (.ref f) (.ref y)):=x
  show h'.get? a=some (PySem.W.methodObj (.ref f) (.ref y))
  exact k a _ (.inl rfl) e
 | ext φ=>obtain⟨p,⟨o,e⟩,st⟩:=x;exact⟨st _ _ p λ o q=>k _ _ (.inl rfl) q,⟨o,k _ _ (.inl rfl) e⟩,st⟩
theorem HOk.lt (x:HOk P w H h) (e:H a=some o):a<h.objs.size:=(x a o e).lt
theorem HOk.fresh (x:HOk P w H h) (e:h.objs.size<=a):H a=none:=by
 cases q:H a with
 | none=>rfl
 | some u=>exact absurd (Nat.lt_of_lt_of_le (x.lt q) e) (Nat.lt_irrefl _)
theorem HOk.kept (x:HOk P w H h) (k:∀ b u,h.get? b=some u->h'.get? b=some u):HOk P w H h':=λ a o e=>
 (x a o e).stay (λ b u _ q=>k b u q) (λ _ q=>q) λ _ _ q=>q
theorem HOk.laid (x:HOk P w H h) (k:∀ b u,h.get? b=some u->h'.get? b=some u) (hp:h.objs.size<=a) (new:ObjOk P w (upd H a o) h' a o):HOk P w (upd H a o) h':=λ b u e=>by
 have hn:=x.fresh hp
 by_cases hb:b=a
 ·subst hb;rw[upd_same] at e;cases e;exact new
 ·rw[upd_ne hb] at e
  exact (x b u e).stay (λ c v _ q=>k c v q) (λ c q=>by rw[upd_ne (ne_of_none q hn)];exact q) λ c xs q=>by rw[upd_ne (ne_of_none q hn)];exact q
end
def Rd (H:Hp) (a:Addr) (u:HO):Prop:=H a=some u\/∃ o,H a=some (.frz o u)
theorem Rd.ok {P:Program}{w:World}{H:Hp}{h:Heap}{a:Addr}{u:HO}(r:Rd H a u) (x:HOk P w H h):ObjOk P w H h a u:=by
 rcases r with r | ⟨o,r⟩
 ·exact x a u r
 ·obtain⟨_,q⟩:=x a _ r
  exact q
noncomputable def Mut:Option HO->Prop
 | some (.lst _)=>True
 | some (.dK _)=>True
 | some (.dT _)=>True
 | some (.set _ _)=>True
 | some (.ins _ _ _)=>True
 | some (.ext _)=>True
 | _=>False
section
variable {P:Program}{w:World}{H:Hp}{h h':Heap}{x e:Addr}{o':HO}
theorem HOk.write (ok:HOk P w H h) (mu:Mut (H x)) (he:e=x\/H e=some (.own x)) (k:∀ b u,b≠e->h.get? b=some u->h'.get? b=some u) (heo:∃ u,h'.get? e=some u)
  (new:ObjOk P w (upd H x o') h' x o'):HOk P w (upd H x o') h':=λ b u q=>by
 have nown:∀ c y,H c=some (.own y)->c≠x:=λ c y r z=>by subst z;rw[r] at mu;exact mu
 have ntup:∀ c xs,H c=some (.tup xs)->c≠x:=λ c xs r z=>by subst z;rw[r] at mu;exact mu
 by_cases hb:b=x
 ·subst hb;rw[upd_same] at q;cases q;exact new
 ·rw[upd_ne hb] at q
  by_cases hbe:b=e
  ·have q':H b=some (.own x):=by
    rcases he with z | z
    ·exact absurd (hbe.trans z) hb
    ·rw[hbe];exact z
   rw[q] at q';cases q'
   obtain⟨v,hv⟩:=heo
   exact⟨v,by rw[hbe];exact hv⟩
  ·refine (ok b u q).stay (λ c v hc r=>k c v ?_ r) (λ c r=>by rw[upd_ne (nown c b r)];exact r) λ c xs r=>by rw[upd_ne (ntup c xs r)];exact r
   rcases hc with rfl | hc
   ·exact hbe
   ·rintro rfl
    rcases he with z | z
    ·exact nown c b hc z
    ·rw[hc] at z;cases z;exact hb rfl
end
structure Un (fs ex:List Addr) (H H':Hp) (h h':Heap):Prop where
 keep:∀ b o,h.get? b=some o->H b=none->b∉fs->b∉ex->h'.get? b=some o
 slot:∀ b o,h.get? b=some o->H b=none->b∈fs->b∉ex->∃ sl,h'.get? b=some { o with slots:=sl }
 free:∀ b o,h.get? b=some o->H b=none->b∉ex->H' b=none
 there:∀ b o,h.get? b=some o->b∉ex->∃ o',h'.get? b=some o'
 tups:∀ b xs,H b=some (.tup xs)->H' b=some (.tup xs)
 frzs:∀ b o u,H b=some (.frz o u)->H' b=some (.frz o u)
 tbls:∀ b ps,H b=some (.tbl ps)->∃ more,H' b=some (.tbl (ps++more))
section
variable {fs fs' ex ex':List Addr}{H H1 H2:Hp}{h h1 h2 h':Heap}{a x e:Addr}{o:HO}
theorem Un.any (u:Un fs ex H H1 h h1) {b:Addr}{ob:Obj}(q:h.get? b=some ob) (n:H b=none) (hx:b∉ex):∃ sl,h1.get? b=some { ob with slots:=sl }:=by
 by_cases hb:b∈fs
 ·exact u.slot b ob q n hb hx
 ·exact⟨ob.slots,u.keep b ob q n hb hx⟩
theorem Un.kept (k:∀ b u,h.get? b=some u->h'.get? b=some u):Un fs ex H H h h':=
 ⟨λ b ob q _ _ _=>k b ob q,λ b ob q _ _ _=>⟨ob.slots,k b ob q⟩,λ _ _ _ n _=>n,λ b ob q _=>⟨ob,k b ob q⟩,λ _ _ q=>q,λ _ _ _ q=>q,λ _ ps q=>⟨#[],by rw[q];simp⟩⟩
theorem Un.refl:Un fs ex H H h h:=Un.kept λ _ _ q=>q
theorem Un.laid (k:∀ b u,h.get? b=some u->h'.get? b=some u) (hp:h.objs.size<=a) (hn:H a=none):Un fs ex H (upd H a o) h h' where
 keep:=λ b u q _ _ _=>k b u q
 slot:=λ b u q _ _ _=>⟨u.slots,k b u q⟩
 free:=λ b u q n _=>by rw[upd_ne (Nat.ne_of_lt (Nat.lt_of_lt_of_le (Heap.lt_size q) hp))];exact n
 there:=λ b u q _=>⟨u,k b u q⟩
 tups:=λ b xs q=>by rw[upd_ne (ne_of_none q hn)];exact q
 frzs:=λ b u xs q=>by rw[upd_ne (ne_of_none q hn)];exact q
 tbls:=λ b ps q=>⟨#[],by rw[upd_ne (ne_of_none q hn),q];simp⟩
theorem Un.write (mu:Mut (H x)) (he:e=x\/H e=some (.own x)) (k:∀ b u,b≠e->h.get? b=some u->h'.get? b=some u) (heo:∃ u,h'.get? e=some u):Un fs ex H (upd H x o) h h':=by
 have hx:∀ b,H b=none->b≠x:=λ b n z=>by subst z;rw[n] at mu;exact mu
 have hb:∀ b,H b=none->b≠e:=λ b n z=>by
  subst z
  rcases he with r | r
  ·exact hx b n r
  ·rw[n] at r;cases r
 have hm:∀ b u,H b=some u->¬ Mut (some u)->b≠x:=λ b u q nm z=>by subst z;rw[q] at mu;exact nm mu
 refine⟨λ b u q n _ _=>k b u (hb b n) q,λ b u q n _ _=>⟨u.slots,k b u (hb b n) q⟩,λ b u q n _=>by rw[upd_ne (hx b n)];exact n,λ b u q _=>?_,
  λ b xs q=>by rw[upd_ne (hm b _ q λ z=>z)];exact q,λ b u xs q=>by rw[upd_ne (hm b _ q λ z=>z)];exact q,λ b ps q=>⟨#[],by rw[upd_ne (hm b _ q λ z=>z),q];simp⟩⟩
 by_cases hbe:b=e
 ·subst hbe;exact heo
 ·exact⟨u,k b u hbe q⟩
end
noncomputable def trk (h:Heap) (H:Hp):List Addr:=(List.range h.objs.size).filter λ a=>(H a).isSome
noncomputable def hidT (h:Heap) (H:Hp):Heap:=PySem.W.hideAll h (trk h H)
theorem hidT_size (h:Heap) (H:Hp):(hidT h H).objs.size=h.objs.size:=PySem.W.hideAll_size _ _
theorem hidT_get {h:Heap}{H:Hp}{b:Addr}{o:Obj}(e:h.get? b=some o) (n:H b=none):(hidT h H).get? b=some o:=
 PySem.W.hideAll_get _ e λ hm=>by
  have q:(H b).isSome=true:=(List.mem_filter.mp hm).2
  rw[n] at q;simp at q
theorem of_hidT {h:Heap}{H:Hp}{b:Addr}{o:Obj}(e:(hidT h H).get? b=some o):h.get? b=some o/\H b=none:=by
 have e':h.get? b=some o:=PySem.W.of_hideAll (trk h H) e
 refine⟨e',?_⟩
 cases q:H b with
 | none=>rfl
 | some x=>
  have hm:b∈trk h H:=List.mem_filter.mpr ⟨List.mem_range.mpr (Heap.lt_size e'),by simp[q]⟩
  have z:(hidT h H).get? b=none:=PySem.W.hideAll_none (trk h H) hm
  rw[z] at e;cases e
end L2
namespace L2
open PySem PySem.Spec PyProof.Rows
structure Mod (K:PySem.W.Frag) (mg:Str->Option Value) (base:Heap):Prop where
 kin:K.In base
 glob:base.Ns mainGlobals mg
 blt:∃ mb,base.Ns builtinsNs mb/\∀ x:Str,x≠"__name__"->mb x=bootBuiltins x
 nolimit:base.NoLimit
structure Cx where
 prog:Program
 w:World
 K:PySem.W.Frag
 mg:Str->Option Value
 base:Heap
 A:Around
 N:List Str
 s₀:Shared
 H₀:Hp
 env:Env
 outer:List Env
 stack:List Env
 ex:List Addr
 fn:Str->Bool
 calm:Bool
 pn:List (Addr×Obj)
 xe:Value->Shared->Prop
noncomputable def frs (l:List Env):List Addr:=l.filterMap (·.frame)
abbrev Cx.fs (X:Cx):List Addr:=frs X.outer
def Vis (sc:Scope) (x:Str):Prop:=sc.names.lookup x=some .local\/sc.names.lookup x=some .cell\/sc.names.lookup x=some .free
def Loc (sc:Scope) (x:Str):Prop:=sc.names.lookup x=some .local\/sc.names.lookup x=some .cell
def Look (env:Env) (h:Heap) (m:Str->Option Value) (x:Str) (u:Value):Prop:=
 (env.kindOf x=some .local/\m x=some u)\/((env.kindOf x=some .cell\/env.kindOf x=some .free)/\∃ c,env.cells.lookup x=some c/\h.IsCell c (some u))
structure Cx.Ok (X:Cx):Prop where
 mod:Mod X.K X.mg X.base
 kind:X.env.scope.kind=.function
 glob:X.env.globals=mainGlobals
 blt:X.env.builtins=builtinsNs
 above:X.s₀.heap.objs.size<=X.env.locals
 inj:∀ x y c,X.env.cells.lookup x=some c->X.env.cells.lookup y=some c->x=y
 has:∀ x,(X.env.kindOf x=some .cell\/X.env.kindOf x=some .free)->∃ c,X.env.cells.lookup x=some c
 cab:∀ x c,X.fn x=true->X.env.cells.lookup x=some c->X.s₀.heap.objs.size<=c
 hd:X.calm=true->X.A.handled=none
 frames:X.A.frames=some X.stack
 stk:X.stack=X.outer\/(X.stack=X.env::X.outer/\X.env.frame=some X.env.locals)
 exf:∀ b∈X.ex,b≠X.env.locals/\∀ x c,X.env.cells.lookup x=some c->c≠b
 bs:∀ b o,X.base.get? b=some o->X.s₀.heap.get? b=some o/\X.H₀ b=none
 bsz:X.base.objs.size<=X.s₀.heap.objs.size
 noex:∀ b o,X.base.get? b=some o->b∉X.ex
 exfs:∀ b∈X.ex,b∉X.fs
 funs:X.s₀.heap.FunFrames X.base X.outer
 frf:∀ b∈X.fs,X.H₀ b=none
structure Inv (X:Cx) (pins:List (Addr×Obj)) (σ:List (Option V)) (H:Hp) (s:Shared):Prop where
 ok:X.Ok
 os:s.os=X.s₀.os
 bare:AllBare s.gens
 base:Un X.fs X.ex X.H₀ H X.s₀.heap s.heap
 loc:∃ m,s.heap.Ns X.env.locals m/\∀ (i:Nat) (x:Str) (v:V),X.N[i]?=some x->σ[i]?=some (some v)->Vis X.env.scope x->∃ u,RelV v u/\Look X.env s.heap m x u
 cell:∀ x c,X.env.cells.lookup x=some c->∃ v,s.heap.IsCell c v
 free:H X.env.locals=none
 freeC:∀ x c,X.env.cells.lookup x=some c->H c=none
 pin:∀ p∈X.pn++pins,s.heap.get? p.1=some p.2/\H p.1=none/\p.1≠X.env.locals/\p.1∉X.fs/\∀ v,p.2.data≠.cell v
 hok:HOk X.prog X.w H s.heap
 len:σ.length=X.N.length
section
variable {X:Cx}{pins:List (Addr×Obj)}{σ:List (Option V)}{H H':Hp}{s:Shared}{h':Heap}
theorem Cx.Ok.nofr (ok:X.Ok) {b:Addr}{o:Obj}(e:X.base.get? b=some o):b∉X.fs:=λ hb=>by
 have:=(ok.funs.mem hb).1
 rw[e] at this;cases this
theorem Inv.bs (I:Inv X pins σ H s):∀ b o,X.base.get? b=some o->s.heap.get? b=some o/\H b=none:=λ b o e=>
 ⟨I.base.keep b o (I.ok.bs b o e).1 (I.ok.bs b o e).2 (I.ok.nofr e) (I.ok.noex b o e),I.base.free b o (I.ok.bs b o e).1 (I.ok.bs b o e).2 (I.ok.noex b o e)⟩
theorem Inv.bk (I:Inv X pins σ H s):∀ b o,X.base.get? b=some o->s.heap.get? b=some o:=λ b o e=>(I.bs b o e).1
theorem Inv.mod (I:Inv X pins σ H s):Mod X.K X.mg X.base:=I.ok.mod
theorem Inv.kIn (I:Inv X pins σ H s):X.K.In s.heap:=I.ok.mod.kin.keeps I.bk
theorem Inv.lt (I:Inv X pins σ H s):X.env.locals<s.heap.objs.size:=let ⟨_,hn,_⟩:=I.loc;hn.lt
theorem Inv.sz (I:Inv X pins σ H s):X.s₀.heap.objs.size<=s.heap.objs.size:=Nat.le_trans I.ok.above (Nat.le_of_lt I.lt)
theorem Inv.nofs (I:Inv X pins σ H s) {a:Addr}(h:s.heap.objs.size<=a):a∉X.fs:=λ hb=>by
 obtain⟨_,o,ho,_⟩:=I.ok.funs.mem hb
 exact absurd (Nat.lt_of_lt_of_le (Heap.lt_size ho) (Nat.le_trans I.sz h)) (Nat.lt_irrefl _)
theorem Inv.cne (I:Inv X pins σ H s):∀ x c,X.env.cells.lookup x=some c->c≠X.env.locals:=λ x c e z=>by
 obtain⟨v,o,ho,hd⟩:=I.cell x c e
 obtain⟨m,⟨o',es,ep,ho',hd',_⟩,_⟩:=I.loc
 rw[z,ho'] at ho;cases ho;rw[hd'] at hd;cases hd
theorem Inv.funs (I:Inv X pins σ H s):s.heap.FunFrames X.base X.outer:=by
 have all:∀ (l:List Env),(∀ b∈frs l,b∈X.fs)->X.s₀.heap.FunFrames X.base l->s.heap.FunFrames X.base l:=by
  intro l
  induction l with
  | nil=>intro _ _;trivial
  | cons env r ih=>
   intro hs hl
   obtain⟨hk,⟨L,o,hf,hn,ho,hd⟩,hr⟩:=hl
   have hL:L∈X.fs:=hs L (by unfold frs;rw[List.filterMap_cons,hf];exact List.mem_cons_self)
   obtain⟨sl,e⟩:=I.base.slot L o ho (I.ok.frf L hL) hL λ z=>I.ok.exfs L z hL
   exact⟨hk,⟨L,_,hf,hn,e,hd⟩,ih (λ b hb=>hs b (by unfold frs;rw[List.filterMap_cons,hf];exact List.mem_cons_of_mem _ hb)) hr⟩
 exact all X.outer (λ _ hb=>hb) I.ok.funs
theorem Inv.stack (I:Inv X pins σ H s):s.heap.FunFrames X.base X.stack:=by
 rcases I.ok.stk with e | ⟨e,hf⟩
 ·rw[e];exact I.funs
 ·rw[e]
  obtain⟨m,hn,_⟩:=I.loc
  refine .cons (by rw[I.ok.kind];decide) hf hn ?_ I.funs
  exact Heap.get?_none_of_le (Nat.le_trans I.ok.bsz I.ok.above)
theorem Inv.stkSub (I:Inv X pins σ H s):∀ b∈frs X.stack,b∈X.env.locals::X.fs:=λ b hb=>by
 rcases I.ok.stk with e | ⟨e,hf⟩
 ·rw[e] at hb;exact List.mem_cons_of_mem _ hb
 ·rw[e] at hb
  unfold frs at hb
  rw[List.filterMap_cons,hf] at hb
  exact hb
theorem Inv.stkFree (I:Inv X pins σ H s):∀ b∈frs X.stack,H b=none:=λ b hb=>by
 rcases List.mem_cons.mp (I.stkSub b hb) with e | hb
 ·rw[e];exact I.free
 ·obtain⟨_,o,ho,_⟩:=I.ok.funs.mem hb
  exact I.base.free b o ho (I.ok.frf b hb) λ z=>I.ok.exfs b z hb
theorem Inv.step {g':Array GenState}{t':Nat}{d':Drawn}{ch:List Addr}(I:Inv X pins σ H s)
  (hch:∀ b∈ch,(b∈X.ex\/X.s₀.heap.objs.size<=b)/\b≠X.env.locals/\(∀ x c,X.env.cells.lookup x=some c->c≠b)/\∀ p∈X.pn++pins,p.1≠b)
  (keep:∀ b o,b≠X.env.locals->b∉X.fs->b∉ch->s.heap.get? b=some o->H b=none->h'.get? b=some o)
  (slot:∀ b o,b≠X.env.locals->b∈X.fs->b∉ch->s.heap.get? b=some o->H b=none->∃ sl,h'.get? b=some { o with slots:=sl }) (free:∀ b o,b∉ch->s.heap.get? b=some o->H b=none->H' b=none)
  (there:∀ b o,b∉ch->s.heap.get? b=some o->∃ o',h'.get? b=some o')
  (tups:∀ b xs,H b=some (.tup xs)->H' b=some (.tup xs)) (frzs:∀ b o u,H b=some (.frz o u)->H' b=some (.frz o u)) (tbls:∀ b ps,H b=some (.tbl ps)->∃ more,H' b=some (.tbl (ps++more)))
  (ns:∀ m,s.heap.Ns X.env.locals m->h'.Ns X.env.locals m) (hok:HOk X.prog X.w H' h') (hg:AllBare g'):
  Inv X pins σ H' { s with heap:=h',gens:=g',drawn:=d',toks:=t' }:=by
 have neL:∀ b o,X.s₀.heap.get? b=some o->b≠X.env.locals:=λ b o e=>Nat.ne_of_lt (Nat.lt_of_lt_of_le (Heap.lt_size e) I.ok.above)
 have neC:∀ b o,X.s₀.heap.get? b=some o->b∉X.ex->b∉ch:=λ b o e hx hb=>by
  rcases (hch b hb).1 with z | z
  ·exact hx z
  ·exact absurd (Nat.lt_of_lt_of_le (Heap.lt_size e) z) (Nat.lt_irrefl _)
 have cellK:∀ x c,X.env.cells.lookup x=some c->∀ v,s.heap.IsCell c v->h'.IsCell c v:=λ x c e v ⟨o,ho,hd⟩=>by
  have nch:c∉ch:=λ z=>(hch c z).2.2.1 x c e rfl
  by_cases hc:c∈X.fs
  ·obtain⟨sl,q⟩:=slot c o (I.cne x c e) hc nch ho (I.freeC x c e)
   exact⟨_,q,hd⟩
  ·exact⟨o,keep c o (I.cne x c e) hc nch ho (I.freeC x c e),hd⟩
 refine⟨I.ok,I.os,hg,⟨λ b o e n hb hx=>?_,λ b o e n hb hx=>?_,λ b o e n hx=>?_,λ b o e hx=>?_,λ b xs e=>tups b xs (I.base.tups b xs e),λ b o xs e=>frzs b o xs (I.base.frzs b o xs e),λ b ps e=>?_⟩,?_,λ x c e=>?_,?_,λ x c e=>?_,λ p hp=>?_,hok,I.len⟩
 ·exact keep b o (neL b o e) hb (neC b o e hx) (I.base.keep b o e n hb hx) (I.base.free b o e n hx)
 ·obtain⟨sl,e1⟩:=I.base.slot b o e n hb hx
  obtain⟨sl',e2⟩:=slot b _ (neL b o e) hb (neC b o e hx) e1 (I.base.free b o e n hx)
  exact⟨sl',e2⟩
 ·obtain⟨o',e1⟩:=I.base.there b o e hx
  exact free b o' (neC b o e hx) e1 (I.base.free b o e n hx)
 ·obtain⟨o',e1⟩:=I.base.there b o e hx
  exact there b o' (neC b o e hx) e1
 ·obtain⟨m1,e1⟩:=I.base.tbls b ps e
  obtain⟨m2,e2⟩:=tbls b _ e1
  exact⟨m1++m2,by rw[e2,Array.append_assoc]⟩
 ·obtain⟨m,hn,hl⟩:=I.loc
  refine⟨m,ns m hn,λ i x v e1 e2 e3=>?_⟩
  obtain⟨u,r,l⟩:=hl i x v e1 e2 e3
  refine⟨u,r,?_⟩
  rcases l with l | ⟨k,c,e,z⟩
  ·exact .inl l
  ·exact .inr ⟨k,c,e,cellK x c e _ z⟩
 ·obtain⟨v,z⟩:=I.cell x c e
  exact⟨v,cellK x c e v z⟩
 ·obtain⟨m,⟨o,_,_,ho,_⟩,_⟩:=I.loc
  exact free _ o (λ z=>(hch _ z).2.1 rfl) ho I.free
 ·obtain⟨v,o,ho,hd⟩:=I.cell x c e
  exact free c o (λ z=>(hch c z).2.2.1 x c e rfl) ho (I.freeC x c e)
 ·obtain⟨e,n,ne,nf,d⟩:=I.pin p hp
  have nch:p.1∉ch:=λ z=>(hch p.1 z).2.2.2 p hp rfl
  exact⟨keep p.1 p.2 ne nf nch e n,free p.1 p.2 nch e n,ne,nf,d⟩
theorem Inv.un {t':Nat}(I:Inv X pins σ H s) (u:Un X.fs [] H H' s.heap h') (hok:HOk X.prog X.w H' h'):Inv X pins σ H' { s with heap:=h',toks:=t' }:=by
 obtain⟨m,⟨o,es,ep,ho,r⟩,_⟩:=id I.loc
 obtain⟨sl,hL⟩:=u.any ho I.free (by simp)
 exact I.step (g':=s.gens) (d':=s.drawn) (ch:=[]) (λ _ z=>nomatch z) (λ b o _ hb _ e n=>u.keep b o e n hb (by simp)) (λ b o _ hb _ e n=>u.slot b o e n hb (by simp)) (λ b o _ e n=>u.free b o e n (by simp)) (λ b o _ e=>u.there b o e (by simp)) u.tups u.frzs u.tbls (λ m' hm=>by
  obtain⟨o',es',ep',ho',r'⟩:=hm
  rw[ho] at ho';cases ho'
  exact⟨_,es',ep',hL,r'⟩) hok I.bare
theorem Inv.call {g':Array GenState}{t':Nat}{d':Drawn}{ch:List Addr}(I:Inv X pins σ H s) (u:Un (frs X.stack) ch H H' s.heap h') (hok:HOk X.prog X.w H' h') (hg:AllBare g')
  (hch:∀ b∈ch,(b∈X.ex\/X.s₀.heap.objs.size<=b)/\b≠X.env.locals/\(∀ x c,X.env.cells.lookup x=some c->c≠b)/\∀ p∈X.pn++pins,p.1≠b):
  Inv X pins σ H' { s with heap:=h',gens:=g',drawn:=d',toks:=t' }:=by
 obtain⟨m,⟨o,es,ep,ho,r⟩,_⟩:=id I.loc
 obtain⟨sl,hL⟩:=u.any ho I.free λ z=>(hch _ z).2.1 rfl
 exact I.step (ch:=ch) hch (λ b o hL hb hc e n=>u.keep b o e n (λ z=>(List.mem_cons.mp (I.stkSub b z)).elim hL hb) hc) (λ b o _ _ hc e n=>u.any e n hc) (λ b o hc e n=>u.free b o e n hc) (λ b o hc e=>u.there b o e hc) u.tups u.frzs u.tbls (λ m' hm=>by
  obtain⟨o',es',ep',ho',r'⟩:=hm
  rw[ho] at ho';cases ho'
  exact⟨_,es',ep',hL,r'⟩) hok hg
theorem Inv.turned {t':Nat}{it:Addr}(I:Inv X pins σ H s) (k:∀ b o,b≠it->s.heap.get? b=some o->h'.get? b=some o) (hn:H it=none) (hL:it≠X.env.locals)
  (h1:it∈X.ex\/X.s₀.heap.objs.size<=it) (h2:∀ x c,X.env.cells.lookup x=some c->c≠it) (h3:∀ p∈X.pn++pins,p.1≠it):Inv X pins σ H { s with heap:=h',toks:=t' }:=by
 have nit:∀ b u,H b=some u->b≠it:=λ b u e z=>by rw[z,hn] at e;cases e
 refine I.step (g':=s.gens) (d':=s.drawn) (ch:=[it]) (λ b hb=>?_) (λ b o _ _ hc e _=>k b o (λ z=>hc (by simp[z])) e) (λ b o _ _ hc e _=>⟨o.slots,k b o (λ z=>hc (by simp[z])) e⟩) (λ _ _ _ _ n=>n)
  (λ b o hc e=>⟨o,k b o (λ z=>hc (by simp[z])) e⟩) (λ _ _ e=>e) (λ _ _ _ e=>e) (λ b ps e=>⟨#[],by rw[e];simp⟩) (λ m hm=>?_) (λ b u e=>?_) I.bare
 ·have e:b=it:=by simpa using hb
  subst e
  exact⟨h1,hL,h2,h3⟩
 ·obtain⟨o,es,ep,ho,r⟩:=hm
  exact⟨o,es,ep,k _ o (Ne.symm hL) ho,r⟩
 ·refine (I.hok b u e).stay (λ c v hc q=>k c v ?_ q) (λ _ q=>q) λ _ _ q=>q
  rcases hc with z | z
  ·rw[z];exact nit b u e
  ·exact nit c _ z
theorem Inv.tok (I:Inv X pins σ H s) (t:Nat):Inv X pins σ H { s with toks:=t }:=I.un (h':=s.heap) (t':=t) Un.refl I.hok
theorem Inv.kept {t':Nat}(I:Inv X pins σ H s) (k:∀ b u,s.heap.get? b=some u->h'.get? b=some u):Inv X pins σ H { s with heap:=h',toks:=t' }:=I.un (Un.kept k) (I.hok.kept k)
theorem Inv.laid {a:Addr}{o:HO}{t':Nat}(I:Inv X pins σ H s) (k:∀ b u,s.heap.get? b=some u->h'.get? b=some u) (hp:s.heap.objs.size<=a) (new:ObjOk X.prog X.w (upd H a o) h' a o):
  Inv X pins σ (upd H a o) { s with heap:=h',toks:=t' }:=I.un (Un.laid k hp (I.hok.fresh hp)) (I.hok.laid k hp new)
theorem Inv.write {x e:Addr}{o:HO}{t':Nat}(I:Inv X pins σ H s) (mu:Mut (H x)) (he:e=x\/H e=some (.own x)) (k:∀ b u,b≠e->s.heap.get? b=some u->h'.get? b=some u) (heo:∃ u,h'.get? e=some u)
  (new:ObjOk X.prog X.w (upd H x o) h' x o):Inv X pins σ (upd H x o) { s with heap:=h',toks:=t' }:=I.un (Un.write mu he k heo) (I.hok.write mu he k heo new)
theorem Inv.pins_of {pins':List (Addr×Obj)}(I:Inv X pins σ H s) (h:∀ p∈pins',s.heap.get? p.1=some p.2/\H p.1=none/\p.1≠X.env.locals/\p.1∉X.fs/\∀ v,p.2.data≠.cell v):Inv X pins' σ H s:=
 ⟨I.ok,I.os,I.bare,I.base,I.loc,I.cell,I.free,I.freeC,λ p hp=>(List.mem_append.mp hp).elim (λ z=>I.pin p (List.mem_append_left _ z)) (h p),I.hok,I.len⟩
theorem nodup_ix {N:List Str}(hN:N.Nodup) {i j:Nat}{x:Str}(a:N[i]?=some x) (b:N[j]?=some x):i=j:=by
 obtain⟨h1,e1⟩:=List.getElem?_eq_some_iff.mp a
 obtain⟨h2,e2⟩:=List.getElem?_eq_some_iff.mp b
 exact (List.getElem_inj hN).mp (e1.trans e2.symm)
theorem store_ok2 {M:Model}{A:Around}{E:Value->Shared->Prop}{i:Nat}{x:Str}{v:V}{u:Value}{Q:Unit->Shared->Prop}(I:Inv X pins σ H s) (hN:X.N.Nodup) (hi:X.N[i]?=some x) (hx:Loc X.env.scope x) (r:RelV v u)
  (h:∀ s',Inv X pins (σ.set i (some v)) H s'->(∃ a,Heap.SameBut a s.heap s'.heap/\(a=X.env.locals\/X.env.cells.lookup x=some a))->Q () s') (hf:X.fn x=true\/X.env.scope.names.lookup x=some .local:=by first | exact .inl rfl | exact .inr rfl | assumption):wpAny M A (storeName X.env x u) Q E s:=by
 obtain⟨m,hn,hl⟩:=id I.loc
 have hcls:(X.env.scope.kind == .class||(X.env.scope.kind == .module&&X.env.locals != X.env.globals))=false:=by rw[I.ok.kind];rfl
 have hiσ:i < σ.length:=by rw[I.len];exact (List.getElem?_eq_some_iff.mp hi).1
 have cne:=I.cne
 have tracked:∀ {a:Addr}{h':Heap},(∃ o,s.heap.get? a=some o/\H a=none)->Heap.SameBut a s.heap h'->HOk X.prog X.w H h':=λ{a h'} ha hs b ob e=>by
  obtain⟨_,_,hfree⟩:=ha
  refine (I.hok b ob e).stay (λ c w' hc q=>(hs.2 c ?_).trans q) (λ _ q=>q) λ _ _ q=>q
  rintro rfl
  rcases hc with rfl | hc
  ·rw[hfree] at e;cases e
  ·rw[hfree] at hc;cases hc
 rcases hx with hk | hk
 ·refine wpAny_storeName_local hk hn (λ h' hn' hs=>?_) hcls
  obtain⟨oL,_,_,hoL,_⟩:=id hn
  refine h _ ⟨I.ok,I.os,I.bare,⟨λ b o e n hb hx=>?_,λ b o e n hb hx=>?_,I.base.free,λ b o e hx=>?_,I.base.tups,I.base.frzs,I.base.tbls⟩,⟨_,hn',λ j y v' e1 e2 e3=>?_⟩,λ y c e=>?_,I.free,I.freeC,λ p hp=>?_,tracked ⟨oL,hoL,I.free⟩ hs,by simpa using I.len⟩ ⟨_,hs,.inl rfl⟩
  ·exact (hs.2 b (Nat.ne_of_lt (Nat.lt_of_lt_of_le (Heap.lt_size e) I.ok.above))).trans (I.base.keep b o e n hb hx)
  ·obtain⟨sl,e1⟩:=I.base.slot b o e n hb hx
   exact⟨sl,(hs.2 b (Nat.ne_of_lt (Nat.lt_of_lt_of_le (Heap.lt_size e) I.ok.above))).trans e1⟩
  ·obtain⟨o',e1⟩:=I.base.there b o e hx
   exact⟨o',(hs.2 b (Nat.ne_of_lt (Nat.lt_of_lt_of_le (Heap.lt_size e) I.ok.above))).trans e1⟩
  ·by_cases hj:j=i
   ·subst hj
    rw[hi] at e1;cases e1
    rw[List.getElem?_set_self hiσ] at e2
    cases e2
    exact⟨u,r,.inl ⟨hk,by simp⟩⟩
   ·rw[List.getElem?_set_ne (Ne.symm hj)] at e2
    obtain⟨u',r',q⟩:=hl j y v' e1 e2 e3
    refine⟨u',r',?_⟩
    rcases q with ⟨k,e⟩ | ⟨k,c,e,z⟩
    ·refine .inl ⟨k,?_⟩
     have:y≠x:=λ e=>hj (nodup_ix hN e1 (e▸hi))
     simp[this,e]
    ·exact .inr ⟨k,c,e,z.sameBut hs (cne y c e)⟩
  ·obtain⟨w',z⟩:=I.cell y c e
   exact⟨w',z.sameBut hs (cne y c e)⟩
  ·obtain⟨e,n,ne,nf,d⟩:=I.pin p hp
   exact⟨(hs.2 p.1 ne).trans e,n,ne,nf,d⟩
 ·have hfn:X.fn x=true:=by
   rcases hf with z | z
   ·exact z
   ·rw[z] at hk;cases hk
  obtain⟨c,hc⟩:=I.ok.has x (.inl hk)
  obtain⟨w',z⟩:=I.cell x c hc
  refine wpAny_storeName_cell I.ok.kind hk hc z (λ h' hc' hs=>?_)
  obtain⟨oc,hoc,hocd⟩:=id z
  refine h { s with heap:=h' } ⟨I.ok,I.os,I.bare,⟨λ b o e n hb hx=>?_,λ b o e n hb hx=>?_,I.base.free,λ b o e hx=>?_,I.base.tups,I.base.frzs,I.base.tbls⟩,⟨m,hn.sameBut hs (Ne.symm (cne x c hc)),λ j y v' e1 e2 e3=>?_⟩,λ y c' e=>?_,I.free,I.freeC,λ p hp=>?_,tracked ⟨oc,hoc,I.freeC x c hc⟩ hs,by simpa using I.len⟩ ⟨c,hs,.inr hc⟩
  ·exact (hs.2 b (Nat.ne_of_lt (Nat.lt_of_lt_of_le (Heap.lt_size e) (I.ok.cab x c hfn hc)))).trans (I.base.keep b o e n hb hx)
  ·obtain⟨sl,e1⟩:=I.base.slot b o e n hb hx
   exact⟨sl,(hs.2 b (Nat.ne_of_lt (Nat.lt_of_lt_of_le (Heap.lt_size e) (I.ok.cab x c hfn hc)))).trans e1⟩
  ·obtain⟨o',e1⟩:=I.base.there b o e hx
   exact⟨o',(hs.2 b (Nat.ne_of_lt (Nat.lt_of_lt_of_le (Heap.lt_size e) (I.ok.cab x c hfn hc)))).trans e1⟩
  ·by_cases hj:j=i
   ·subst hj
    rw[hi] at e1;cases e1
    rw[List.getElem?_set_self hiσ] at e2
    cases e2
    exact⟨u,r,.inr ⟨.inl hk,c,hc,hc'⟩⟩
   ·rw[List.getElem?_set_ne (Ne.symm hj)] at e2
    obtain⟨u',r',q⟩:=hl j y v' e1 e2 e3
    refine⟨u',r',?_⟩
    rcases q with q | ⟨k,c',e,z'⟩
    ·exact .inl q
    ·refine .inr ⟨k,c',e,z'.sameBut hs ?_⟩
     rintro rfl
     exact hj (nodup_ix hN e1 (I.ok.inj _ _ _ e hc▸hi))
  ·by_cases hcc:c'=c
   ·subst hcc;exact⟨_,hc'⟩
   ·obtain⟨w2,z2⟩:=I.cell y c' e
    exact⟨w2,z2.sameBut hs hcc⟩
  ·obtain⟨e,n,ne,nf,d⟩:=I.pin p hp
   refine⟨(hs.2 p.1 ?_).trans e,n,ne,nf,d⟩
   intro q
   rw[q,hoc] at e
   have q':oc=p.2:=Option.some.inj e
   exact d w' (by rw[<- q'];exact hocd)
theorem store_ok {M:Model}{A:Around}{E:Value->Shared->Prop}{i:Nat}{x:Str}{v:V}{u:Value}{Q:Unit->Shared->Prop}(I:Inv X pins σ H s) (hN:X.N.Nodup) (hi:X.N[i]?=some x) (hx:Loc X.env.scope x) (r:RelV v u)
  (h:∀ s',Inv X pins (σ.set i (some v)) H s'->Q () s') (hf:X.fn x=true\/X.env.scope.names.lookup x=some .local:=by first | exact .inl rfl | exact .inr rfl | assumption):wpAny M A (storeName X.env x u) Q E s:=
 store_ok2 I hN hi hx r (λ s' I' _=>h s' I') hf
theorem Inv.call' {s':Shared}{ch:List Addr}(I:Inv X pins σ H s) (ho:s'.os=s.os) (u:Un (frs X.stack) ch H H' s.heap s'.heap) (hok:HOk X.prog X.w H' s'.heap) (hg:AllBare s'.gens)
  (hch:∀ b∈ch,(b∈X.ex\/X.s₀.heap.objs.size<=b)/\b≠X.env.locals/\(∀ x c,X.env.cells.lookup x=some c->c≠b)/\∀ p∈X.pn++pins,p.1≠b):Inv X pins σ H' s':=by
 obtain⟨h',g',d',t',o'⟩:=s'
 have e:o'=s.os:=ho
 subst e
 exact I.call (g':=g') (t':=t') (d':=d') u hok hg hch
end
abbrev XK:=Value->Option Addr->Hp->Prop
abbrev St:=List (Option V)
abbrev VK:=V->Hp->Prop
abbrev TE:=St->Hp->VK->Prop
abbrev TT:=St->Hp->(Bool->Hp->Prop)->Prop
abbrev TA:=St->Hp->(List V->Hp->Prop)->Prop
structure Ends where
 nx:St->Hp->Prop
 rt:VK
 bk:St->Hp->Prop:=λ _ _=>False
 ct:St->Hp->Prop:=λ _ _=>False
abbrev TS:=Ends->St->Hp->Prop
def EP (X:Cx) (pins:List (Addr×Obj)) (σ:St) (Q:VK) (u:Value) (s':Shared):Prop:=∃ v H',Inv X pins σ H' s'/\RelV v u/\Q v H'
def TP (X:Cx) (pins:List (Addr×Obj)) (σ:St) (Q:Bool->Hp->Prop) (b:Bool) (s':Shared):Prop:=∃ H',Inv X pins σ H' s'/\Q b H'
def AP (X:Cx) (pins:List (Addr×Obj)) (σ:St) (Q:List V->Hp->Prop) (us:List Value) (s':Shared):Prop:=∃ vs H',Inv X pins σ H' s'/\Vals vs us/\Q vs H'
def SP (X:Cx) (pins:List (Addr×Obj)) (D:Ends) (f:Flow) (s':Shared):Prop:=
 match f with
 | .next=>∃ σ' H',Inv X pins σ' H' s'/\D.nx σ' H'
 | .brk=>∃ σ' H',Inv X pins σ' H' s'/\D.bk σ' H'
 | .cont=>∃ σ' H',Inv X pins σ' H' s'/\D.ct σ' H'
 | .ret u=>∃ v σ' H',Inv X pins σ' H' s'/\RelV v u/\D.rt v H'
def PE (X:Cx) (e:Expr) (t:TE):Prop:=
 ∀ (pins:List (Addr×Obj)) (s:Shared) (σ:St) (H:Hp) (Q:VK),Inv X pins σ H s->t σ H Q->wpAny (model X.prog X.w) X.A (eval e X.env) (EP X pins σ Q) X.xe s
def PT (X:Cx) (e:Expr) (t:TT):Prop:=
 ∀ (pins:List (Addr×Obj)) (s:Shared) (σ:St) (H:Hp) (Q:Bool->Hp->Prop),Inv X pins σ H s->t σ H Q->wpAny (model X.prog X.w) X.A (isTrue e X.env (eval e X.env)) (TP X pins σ Q) X.xe s
def PW (X:Cx) (e:Expr) (t:TT):Prop:=
 ∀ (whole:Sem Value) (pins:List (Addr×Obj)) (s:Shared) (σ:St) (H:Hp) (Q:Bool->Hp->Prop),Inv X pins σ H s->t σ H Q->wpAny (model X.prog X.w) X.A (isTrue e X.env whole) (TP X pins σ Q) X.xe s
theorem PW.pt {X:Cx}{e:Expr}{t:TT}(h:PW X e t):PT X e t:=h _
def PA (X:Cx) (es:List Expr) (t:TA):Prop:=
 ∀ (pos:Pos) (pins:List (Addr×Obj)) (s:Shared) (σ:St) (H:Hp) (Q:List V->Hp->Prop),Inv X pins σ H s->t σ H Q->wpAny (model X.prog X.w) X.A (spliced (backTo pos (starEach es X.env))) (AP X pins σ Q) X.xe s
def PS (X:Cx) (st:Stmt) (t:TS):Prop:=
 ∀ (pins:List (Addr×Obj)) (s:Shared) (σ:St) (H:Hp) (D:Ends),Inv X pins σ H s->t D σ H->wpAny (model X.prog X.w) X.A (exec st X.env) (SP X pins D) X.xe s
def PSs (X:Cx) (st:List Stmt) (t:TS):Prop:=
 ∀ (pins:List (Addr×Obj)) (s:Shared) (σ:St) (H:Hp) (D:Ends),Inv X pins σ H s->t D σ H->wpAny (model X.prog X.w) X.A (execs st X.env) (SP X pins D) X.xe s
theorem thn {α:Type}{t:Sem α}{Q Q':α->Shared->Prop}{M:Model}{A:Around}{E:Value->Shared->Prop}{s:Shared}(h:wpAny M A t Q E s) (hQ:∀ a s,Q a s->Q' a s):wpAny M A t Q' E s:=wpAny_mono h hQ λ _ _ x=>x
end L2
namespace L2
open PySem PySem.Spec PyProof.Rows
section
variable {X:Cx}
def tVar (i:Nat):TE:=fun σ H Q=>∃ v,σ[i]?=some (some v)/\Q v H
def tC (v:V):TE:=λ _ H Q=>Q v H
theorem pe_var {i:Nat}{x:Str}{pos:Pos}(hN:X.N[i]?=some x) (hv:Vis X.env.scope x) (hd:(x == ("__debug__":Str))=false:=by decide) (hcd:(x == ("__classdict__":Str))=false:=by decide):PE X (.Name x pos) (tVar i):=by
 intro pins s σ H Q I h
 obtain⟨v,e,h⟩:=h
 obtain⟨m,hn,hl⟩:=I.loc
 obtain⟨u,r,l⟩:=hl i x v hN e hv
 have fin:EP X pins σ Q u s:=⟨v,H,I,r,h⟩
 rcases l with ⟨hk,hm⟩ | ⟨hk,c,hc,hcell⟩
 ·exact wpAny_Name (wpAny_loadName_local I.ok.kind hk hn hm fin) hd
 ·rcases hk with hk | hk
  ·exact wpAny_Name (wpAny_loadName_cell I.ok.kind hk hc hcell fin) hd
  ·exact wpAny_Name (wpAny_loadName_free I.ok.kind hk hc hcell fin hcd) hd
theorem pe_int {i j pos}:PE X (.Constant (.int i) j pos) (tC (.int i)):=λ _ _ _ H _ I h=>wpAny_Constant_int ⟨.int i,H,I.tok _,⟨_,rfl⟩,h⟩
theorem pe_bl {b j pos}:PE X (.Constant (.bool b) j pos) (tC (.bl b)):=λ _ _ _ H _ I h=>Constant_bool ⟨.bl b,H,I,rfl,h⟩
theorem pe_non {j pos}:PE X (.Constant .none j pos) (tC .non):=λ _ _ _ H _ I h=>Constant_none ⟨.non,H,I,rfl,h⟩
theorem pe_str {x j pos}:PE X (.Constant (.str x) j pos) (tC (.str x)):=λ _ _ _ H _ I h=>Calls.Constant_str ⟨.str x,H,I.tok _,⟨_,rfl⟩,h⟩
def Gl (X:Cx) (x:Str):Prop:=X.env.kindOf x=some .globalImplicit
theorem ld_glob {E:Value->Shared->Prop}{pins:List (Addr×Obj)}{s:Shared}{σ:St}{H:Hp}{x:Str}{u:Value}{pos:Pos}{Q:Value->Shared->Prop}(I:Inv X pins σ H s) (hg:Gl X x) (hm:X.mg x=some u) (h:Q u s)
  (hd:(x == ("__debug__":Str))=false:=by decide):wpAny (model X.prog X.w) X.A (eval (.Name x pos) X.env) Q E s:=
 Calls.Name_function_global I.ok.kind hg (Calls.loadGlobal_global (by rw[I.ok.glob];exact I.mod.glob.keeps I.bk) hm h) hd
theorem ld_blt {E:Value->Shared->Prop}{pins:List (Addr×Obj)}{s:Shared}{σ:St}{H:Hp}{x:Str}{u:Value}{pos:Pos}{Q:Value->Shared->Prop}(I:Inv X pins σ H s) (hg:Gl X x) (hm:X.mg x=none) (hv:bootBuiltins x=some u) (h:Q u s)
  (hn:x≠"__name__":=by decide) (hd:(x == ("__debug__":Str))=false:=by decide):wpAny (model X.prog X.w) X.A (eval (.Name x pos) X.env) Q E s:=by
 obtain⟨mb,h1,h2⟩:=I.mod.blt
 exact Calls.Name_function_global I.ok.kind hg (Calls.loadGlobal_builtin (by rw[I.ok.glob];exact I.mod.glob.keeps I.bk) hm (by rw[I.ok.blt];exact h1.keeps I.bk) ((h2 x hn).trans hv) h) hd
theorem pe_glob {x:Str}{v:V}{u:Value}{pos:Pos}(hg:Gl X x) (hm:X.mg x=some u) (r:RelV v u) (hd:(x == ("__debug__":Str))=false:=by decide):PE X (.Name x pos) (tC v):=
 λ _ _ _ H _ I h=>ld_glob I hg hm ⟨v,H,I,r,h⟩ hd
theorem pe_bltn {x:Str}{v:V}{u:Value}{pos:Pos}(hg:Gl X x) (hm:X.mg x=none) (hv:bootBuiltins x=some u) (r:RelV v u) (hn:x≠"__name__":=by decide) (hd:(x == ("__debug__":Str))=false:=by decide):PE X (.Name x pos) (tC v):=
 λ _ _ _ H _ I h=>ld_blt I hg hm hv ⟨v,H,I,r,h⟩ hn hd
variable {a b:Expr}{ta tb:TE}{pos:Pos}
variable {tA tB':TT}{rest:List Expr}
def tAnd (t u:TT):TT:=fun σ H Q=>t σ H λ c H1=>if c=true then u σ H1 Q else Q false H1
def tOr (t u:TT):TT:=fun σ H Q=>t σ H λ c H1=>if c=true then Q true H1 else u σ H1 Q
def tNot (t:TT):TT:=fun σ H Q=>t σ H λ c H1=>Q (!c) H1
theorem pw_and1 (ha:PT X a tA):PW X (.BoolOp .And [a] pos) tA:=by
 intro wh pins s σ H Q I h
 refine isTrue_and (thn (ha pins s σ H Q I h) λ c s1 e=>?_)
 cases c with
 | true=>exact isTrue_and_nil e
 | false=>exact e
theorem pw_or1 (ha:PT X a tA):PW X (.BoolOp .Or [a] pos) tA:=by
 intro wh pins s σ H Q I h
 refine isTrue_or (thn (ha pins s σ H Q I h) λ c s1 e=>?_)
 cases c with
 | false=>exact isTrue_or_nil e
 | true=>exact e
theorem pw_and (ha:PT X a tA) (hb:PW X (.BoolOp .And (b::rest) pos) tB'):PW X (.BoolOp .And (a::b::rest) pos) (tAnd tA tB'):=by
 intro wh pins s σ H Q I h
 refine isTrue_and (thn (ha pins s σ H _ I h) λ c s1 ⟨H1,I1,q1⟩=>?_)
 cases c with
 | true=>exact hb wh pins s1 σ H1 Q I1 q1
 | false=>exact⟨H1,I1,q1⟩
theorem pw_or (ha:PT X a tA) (hb:PW X (.BoolOp .Or (b::rest) pos) tB'):PW X (.BoolOp .Or (a::b::rest) pos) (tOr tA tB'):=by
 intro wh pins s σ H Q I h
 refine isTrue_or (thn (ha pins s σ H _ I h) λ c s1 ⟨H1,I1,q1⟩=>?_)
 cases c with
 | true=>exact⟨H1,I1,q1⟩
 | false=>exact hb wh pins s1 σ H1 Q I1 q1
theorem pt_not (ha:PT X a tA):PT X (.UnaryOp .Not a pos) (tNot tA):=by
 intro pins s σ H Q I h
 exact isTrue_not (ha pins s σ H (λ c H1=>Q (!c) H1) I h)
def tAndV (ta tb:TE):TE:=fun σ H Q=>ta σ H λ x H1=>∃ c,x=.bl c/\if c=true then tb σ H1 Q else Q (.bl false) H1
def tNotV (ta:TE):TE:=fun σ H Q=>ta σ H λ x H1=>∃ c,x=.bl c/\Q (.bl (!c)) H1
theorem pe_one {op} {t:TE}(h:PE X a t):PE X (.BoolOp op [a] pos) t:=λ pins s σ H Q I hw=>BoolOp_one (h pins s σ H Q I hw)
theorem pe_and (ha:PE X a ta) (hb:PE X (.BoolOp .And (b::rest) pos) tb):PE X (.BoolOp .And (a::b::rest) pos) (tAndV ta tb):=by
 intro pins s σ H Q I h
 refine BoolOp_and (thn (ha pins s σ H _ I h) λ v s1 ⟨x,H1,I1,r1,q1⟩=>?_)
 obtain⟨c,rfl,q1⟩:=q1
 cases r1
 refine wpAny_truthy_bool ?_
 cases c with
 | true=>exact hb pins s1 σ H1 Q I1 q1
 | false=>exact⟨.bl false,H1,I1,rfl,q1⟩
theorem pe_not (ha:PE X a ta):PE X (.UnaryOp .Not a pos) (tNotV ta):=by
 intro pins s σ H Q I h
 refine UnaryOp_ (thn (ha pins s σ H _ I h) λ v s1 ⟨x,H1,I1,r1,q1⟩=>?_)
 obtain⟨c,rfl,q1⟩:=q1
 cases r1
 exact not_of (wpAny_truthy_bool ⟨.bl (!c),H1,I1,rfl,q1⟩)
end
end L2
namespace L2
open PySem PySem.Spec PyProof.Rows
def SqL (K:PySem.W.Frag) (H:Hp) (a:Addr) (xs:List V):Prop:=
 Rd H a (.lst xs)\/
  ∃ (o:Obj) (its:Array Value) (n:Nat),K.lookup a=some o/\o.cls=.type "list"/\o.dict=none/\o.data=.seq its n/\its.size<=sizeLine/\Vals xs its.toList
def SqT (K:PySem.W.Frag) (H:Hp) (a:Addr) (xs:List V):Prop:=
 Rd H a (.tup xs)\/
  ∃ (o:Obj) (its:Array Value) (n:Nat),K.lookup a=some o/\o.cls=.type "tuple"/\o.data=.seq its n/\its.size<=sizeLine/\Vals xs its.toList
noncomputable def absV:Value->Option V
 | .none=>some .non
 | .bool b=>some (.bl b)
 | .int i _=>some (.int i)
 | .str x _=>some (.str x)
 | .bytes b _=>some (.byt b)
 | .float b _=>some (.flt b)
 | .ref a=>some (.ref a)
 | .type n=>some (.ty n)
 | _=>none
theorem RelV.abs {x:V}{u:Value}(r:RelV x u):absV u=some x:=by
 cases x with
 | non=>cases r;rfl
 | bl _=>cases r;rfl
 | int _=>obtain⟨t,rfl⟩:=r;rfl
 | str _=>obtain⟨t,rfl⟩:=r;rfl
 | byt _=>obtain⟨t,rfl⟩:=r;rfl
 | flt _=>obtain⟨t,rfl⟩:=r;rfl
 | ref _=>cases r;rfl
 | ty _=>cases r;rfl
theorem RelV.inj {x y:V}{u:Value}(r:RelV x u) (q:RelV y u):x=y:=Option.some.inj (r.abs.symm.trans q.abs)
theorem Vals.inj:∀ {xs ys:List V}{us:List Value},Vals xs us->Vals ys us->xs=ys
 | _,_,_,.nil,.nil=>rfl
 | _,_,_,.cons r t,.cons r' t'=>by rw[r.inj r',Vals.inj t t']
section
variable {X:Cx}{pins:List (Addr×Obj)}{σ:St}{H:Hp}{s:Shared}{a:Addr}{xs ys:List V}
theorem SqL.of {K:PySem.W.Frag}(h:H a=some (.lst xs)):SqL K H a xs:=.inl (.inl h)
theorem SqT.of {K:PySem.W.Frag}(h:H a=some (.tup xs)):SqT K H a xs:=.inl (.inl h)
theorem Inv.list (I:Inv X pins σ H s) (h:SqL X.K H a xs):∃ its:List Value,Vals xs its/\PlainL s.heap a its.toArray/\xs.length<=sizeLine:=by
 rcases h with h | ⟨o,its,n,hk,hc,hd,hs,hz,r⟩
 ·obtain⟨z,its,n,r,e⟩:=h.ok I.hok
  exact⟨its,r,⟨_,n,e,rfl,rfl,rfl⟩,z⟩
 ·refine⟨its.toList,r,⟨o,n,I.kIn a o hk,hc,hd,by simpa using hs⟩,?_⟩
  have e:=r.length
  simp only[Array.length_toList] at e
  omega
theorem Inv.tuple (I:Inv X pins σ H s) (h:SqT X.K H a xs):∃ its:List Value,Vals xs its/\IsTup s.heap a its.toArray/\xs.length<=sizeLine:=by
 rcases h with h | ⟨o,its,n,hk,hc,hs,hz,r⟩
 ·obtain⟨z,its,r,p⟩:=h.ok I.hok
  exact⟨its,r,p,z⟩
 ·refine⟨its.toList,r,⟨o,I.kIn a o hk,hc,n,by simpa using hs⟩,?_⟩
  have e:=r.length
  simp only[Array.length_toList] at e
  omega
theorem Inv.list_inj (I:Inv X pins σ H s) (h:SqL X.K H a xs) (h':SqL X.K H a ys):xs=ys:=by
 obtain⟨its,r,⟨o,n,e,_,_,d⟩,_⟩:=I.list h
 obtain⟨its',r',⟨o',n',e',_,_,d'⟩,_⟩:=I.list h'
 rw[e] at e';cases e'
 rw[d] at d'
 injection d' with d1 _
 have:its=its':=by simpa using congrArg Array.toList d1
 subst this
 exact r.inj r'
theorem Inv.tuple_inj (I:Inv X pins σ H s) (h:SqT X.K H a xs) (h':SqT X.K H a ys):xs=ys:=by
 obtain⟨its,r,⟨o,e,_,n,d⟩,_⟩:=I.tuple h
 obtain⟨its',r',⟨o',e',_,n',d'⟩,_⟩:=I.tuple h'
 rw[e] at e';cases e'
 rw[d] at d'
 injection d' with d1 _
 have:its=its':=by simpa using congrArg Array.toList d1
 subst this
 exact r.inj r'
end
abbrev Cx.wish (X:Cx) (E:Value->Shared->Prop):Cx:={ X with xe:=E }
abbrev Cx.nox (X:Cx):Cx:=X.wish λ _ _=>False
theorem Cx.Ok.wish {X:Cx}(ok:X.Ok) (E:Value->Shared->Prop):(X.wish E).Ok:=
 ⟨ok.mod,ok.kind,ok.glob,ok.blt,ok.above,ok.inj,ok.has,ok.cab,ok.hd,ok.frames,ok.stk,ok.exf,ok.bs,ok.bsz,ok.noex,ok.exfs,ok.funs,ok.frf⟩
theorem Cx.Ok.unwish {X:Cx}{E:Value->Shared->Prop}(ok:(X.wish E).Ok):X.Ok:=
 ⟨ok.mod,ok.kind,ok.glob,ok.blt,ok.above,ok.inj,ok.has,ok.cab,ok.hd,ok.frames,ok.stk,ok.exf,ok.bs,ok.bsz,ok.noex,ok.exfs,ok.funs,ok.frf⟩
section
variable {X:Cx}{pins:List (Addr×Obj)}{σ:St}{H:Hp}{s:Shared}{E:Value->Shared->Prop}
theorem Inv.wish (I:Inv X pins σ H s) (E:Value->Shared->Prop):Inv (X.wish E) pins σ H s:=⟨I.ok.wish E,I.os,I.bare,I.base,I.loc,I.cell,I.free,I.freeC,I.pin,I.hok,I.len⟩
theorem Inv.unwish (I:Inv (X.wish E) pins σ H s):Inv X pins σ H s:=⟨I.ok.unwish,I.os,I.bare,I.base,I.loc,I.cell,I.free,I.freeC,I.pin,I.hok,I.len⟩
theorem SP.unwish {D:Ends}{f:Flow}{s':Shared}(h:SP (X.wish E) pins D f s'):SP X pins D f s':=by
 cases f with
 | next=>obtain⟨σ',H',I,q⟩:=h;exact⟨σ',H',I.unwish,q⟩
 | brk=>obtain⟨σ',H',I,q⟩:=h;exact⟨σ',H',I.unwish,q⟩
 | cont=>obtain⟨σ',H',I,q⟩:=h;exact⟨σ',H',I.unwish,q⟩
 | ret u=>obtain⟨v,σ',H',I,r,q⟩:=h;exact⟨v,σ',H',I.unwish,r,q⟩
theorem PSs.nox {st:List Stmt}{t:TS}(h:PSs X.nox st t):PSs X st t:=λ pins s σ H D I hw=>
 wpAny_mono (h pins s σ H D (I.wish _) hw) (λ _ _ q=>q.unwish) λ _ _ z=>False.elim z
end
section
variable {X:Cx}{st:Stmt}{rest:List Stmt}{t u:TS}{e:Expr}{te:TE}{pos:Pos}
def tNext:TS:=λ D σ H=>D.nx σ H
def tSeq (t u:TS):TS:=λ D σ H=>t { D with nx:=u D } σ H
theorem pss_nil:PSs X [] tNext:=λ _ _ σ H _ I h=>wpAny_execs_nil ⟨σ,H,I,h⟩
theorem pss_cons (h1:PS X st t) (h2:PSs X rest u):PSs X (st::rest) (tSeq t u):=by
 intro pins s σ H D I h
 refine wpAny_execs_cons (thn (h1 pins s σ H { D with nx:=u D } I h) λ f s1 q=>?_)
 cases f with
 | next=>
  obtain⟨σ',H',I',q⟩:=q
  exact h2 pins s1 σ' H' D I' q
 | ret v=>exact q
 | brk=>exact q
 | cont=>exact q
theorem pss_one (h1:PS X st t):PSs X [st] t:=by
 intro pins s σ H D I h
 refine wpAny_execs_cons (thn (h1 pins s σ H D I h) λ f s1 q=>?_)
 cases f with
 | next=>exact wpAny_execs_nil q
 | ret v=>exact q
 | brk=>exact q
 | cont=>exact q
def tBreak:TS:=λ D σ H=>D.bk σ H
theorem ps_break:PS X (.Break pos) tBreak:=λ _ _ σ H _ I h=>wpAny_Break ⟨σ,H,I,h⟩
theorem Inv.quiet {pins:List (Addr×Obj)}{σ:St}{H:Hp}{s:Shared}(I:Inv X pins σ H s):interactive X.env=false:=by simp[interactive,I.ok.kind]
def tDrop (te:TE):TS:=λ D σ H=>te σ H λ _ H1=>D.nx σ H1
theorem ps_expr (he:PE X e te) (hs:swapsWith e none pos.line X.env=pure false:=by rfl):PS X (.Expr e pos) (tDrop te):=by
 intro pins s σ H D I h
 exact wpAny_Expr_any (thn (he pins s σ H _ I h) λ v s1 ⟨x,H1,I1,r1,q1⟩=>⟨σ,H1,I1,q1⟩) I.quiet hs
def tRet (te:TE):TS:=λ D σ H=>te σ H D.rt
theorem ps_ret (he:PE X e te):PS X (.Return (some e) pos) (tRet te):=by
 intro pins s σ H D I h
 exact wpAny_Return_some (thn (he pins s σ H _ I h) λ v s1 ⟨x,H1,I1,r1,q1⟩=>⟨x,σ,H1,I1,r1,q1⟩)
def tIfS (c:TT) (t u:TS):TS:=λ D σ H=>c σ H λ b H1=>if b=true then t D σ H1 else u D σ H1
theorem ps_if {c:Expr}{a b:List Stmt}{tc:TT}(hc:PT X c tc) (ha:PSs X a t) (hb:PSs X b u):PS X (.If c a b pos) (tIfS tc t u):=by
 intro pins s σ H D I h
 refine wpAny_If (thn (hc pins s σ H _ I h) λ d s1 ⟨H1,I1,q1⟩=>?_)
 cases d with
 | true=>exact ha pins s1 σ H1 D I1 q1
 | false=>exact hb pins s1 σ H1 D I1 q1
end
abbrev TG:=V->St->Hp->(St->Hp->Prop)->Prop
abbrev TGs:=List V->St->Hp->(St->Hp->Prop)->Prop
def PG (X:Cx) (target:Expr) (t:TG):Prop:=
 ∀ (pins:List (Addr×Obj)) (s:Shared) (σ:St) (H:Hp) (v:V) (u:Value) (Q:St->Hp->Prop),Inv X pins σ H s->RelV v u->t v σ H Q->
  wpAny (model X.prog X.w) X.A (assign target X.env u) (λ _ s'=>∃ σ' H',Inv X pins σ' H' s'/\Q σ' H') X.xe s
def PGs (X:Cx) (ts:List Expr) (t:TGs):Prop:=
 ∀ (pins:List (Addr×Obj)) (s:Shared) (σ:St) (H:Hp) (vs:List V) (us:List Value) (Q:St->Hp->Prop),Inv X pins σ H s->Vals vs us->t vs σ H Q->
  wpAny (model X.prog X.w) X.A (assignInOrder ((assignEach ts X.env).map (·.2)) us) (λ _ s'=>∃ σ' H',Inv X pins σ' H' s'/\Q σ' H') X.xe s
abbrev TSet:=V->V->V->Hp->(Hp->Prop)->Prop
def PSet (X:Cx) (t:TSet):Prop:=
 ∀ (pins:List (Addr×Obj)) (s:Shared) (σ:St) (H:Hp) (o i v:V) (ov iv u:Value) (Q:Hp->Prop),Inv X pins σ H s->RelV o ov->RelV i iv->RelV v u->t o i v H Q->
  wpAny (model X.prog X.w) X.A (setItem ov iv u) (λ _ s'=>∃ H',Inv X pins σ H' s'/\Q H') X.xe s
section
variable {X:Cx}{pos:Pos}
noncomputable def gName (i:Nat):TG:=λ v σ H Q=>Q (σ.set i (some v)) H
theorem pg_name {i:Nat}{x:Str}(hN:X.N.Nodup) (hi:X.N[i]?=some x) (hx:Loc X.env.scope x) (hf:X.fn x=true\/X.env.scope.names.lookup x=some .local:=by first | exact .inl rfl | exact .inr rfl | assumption):PG X (.Name x pos) (gName i):=by
 intro pins s σ H v u Q I r h
 exact wpAny_assign_Name (store_ok I hN hi hx r (λ s' I'=>⟨_,H,I',h⟩) hf)
noncomputable def gNil:TGs:=λ vs σ H Q=>vs=[]/\Q σ H
noncomputable def gCons (t:TG) (u:TGs):TGs:=λ vs σ H Q=>∃ v r,vs=v::r/\t v σ H fun σ' H'=>u r σ' H' Q
theorem pgs_nil:PGs X [] gNil:=by
 intro pins s σ H vs us Q I r h
 obtain⟨e,h⟩:=h
 subst e
 cases r
 exact assignInOrder_nil ⟨σ,H,I,h⟩
theorem pgs_cons {e:Expr}{es:List Expr}{t:TG}{u:TGs}(h1:PG X e t) (h2:PGs X es u)
  (hs:(assignEach (e::es) X.env).map (·.2)=assign e X.env::(assignEach es X.env).map (·.2):=by rfl):PGs X (e::es) (gCons t u):=by
 intro pins s σ H vs us Q I r h
 obtain⟨v,vr,e1,h⟩:=h
 subst e1
 cases r with
 | cons r rr=>
  rw[hs]
  refine assignInOrder_cons (thn (h1 pins s σ H _ _ _ I r h) λ _ s1 ⟨σ1,H1,I1,q1⟩=>?_)
  exact h2 pins s1 σ1 H1 _ _ Q I1 rr q1
noncomputable def gTup (K:PySem.W.Frag) (n:Nat) (t:TGs):TG:=λ v σ H Q=>∃ a xs,v=.ref a/\SqT K H a xs/\xs.length=n/\t xs σ H Q
theorem pg_tup {es:List Expr}{k:Nat}{t:TGs}{n:Nat}(hc:X.calm=true) (h:PGs X es t)
  (hn:(assignEach es X.env).length=n:=by rfl) (hst:(assignEach es X.env).findIdx? (·.1)=none:=by rfl):PG X (.Tuple es k pos) (gTup X.K n t):=by
 intro pins s σ H v u Q I r hw
 obtain⟨a,xs,e1,hq,hl,hw⟩:=hw
 subst e1
 cases r
 obtain⟨its,rv,ht,hz⟩:=I.tuple hq
 refine assign_Tuple_tuple (I.ok.hd hc) ht (by simp[hn,<- hl,rv.length]) hst λ h' hx=>?_
 have I1:Inv X pins σ H { s with heap:=h' }:=I.kept (t':=s.toks) λ b o e=>hx b o (Nat.ne_of_lt (Heap.lt_size e)) e
 exact h pins _ σ H xs _ Q I1 (by simpa using rv) hw
noncomputable def gSub (to ti:TE) (t:TSet):TG:=λ v σ H Q=>to σ H λ o H1=>ti σ H1 λ i H2=>t o i v H2 λ H3=>Q σ H3
theorem pg_sub {o i:Expr}{to ti:TE}{t:TSet}(ho:PE X o to) (hi:PE X i ti) (hs:PSet X t)
  (ha:∀ v,assign (.Subscript o i pos) X.env v=(do
   let ov <- holding [v] (eval o X.env)
   let iv <- holding [v,ov] (eval i X.env)
   standAt pos
   holding [v,ov,iv] (setItem ov iv v)
   release [v,ov,iv] []):=by intro _;rfl):PG X (.Subscript o i pos) (gSub to ti t):=by
 intro pins s σ H v u Q I r h
 rw[ha]
 refine wpAny_bind (wpAny_holding (thn (ho pins s σ H _ I h) λ ov s1 ⟨x,H1,I1,r1,q1⟩=>?_))
 refine wpAny_bind (wpAny_holding (thn (hi pins s1 σ H1 _ I1 q1) λ iv s2 ⟨y,H2,I2,r2,q2⟩=>?_))
 refine wpAny_bind (wpAny_standAt (wpAny_bind (wpAny_holding (thn (hs pins s2 σ H2 x y v ov iv u _ I2 r1 r2 r q2) λ _ s3 ⟨H3,I3,q3⟩=>?_))))
 exact wpAny_release ⟨σ,H3,I3,q3⟩
def tAsg (te:TE) (g:TG):TS:=λ D σ H=>te σ H λ x H1=>g x σ H1 D.nx
theorem ps_asg {tg e:Expr}{te:TE}{g:TG}(he:PE X e te) (hg:PG X tg g) (hs:swapsWithSole [tg] e pos.line X.env=pure false:=by rfl) (hw:swappedStores [tg] e X.env=pure none:=by rfl)
  (h1:(assignEach [tg] X.env).map (·.2)=[assign tg X.env]:=by rfl):PS X (.Assign [tg] e pos) (tAsg te g):=by
 intro pins s σ H D I h
 refine wpAny_Assign_stores (thn (he pins s σ H _ I h) λ v s1 ⟨x,H1,I1,r1,q1⟩=>?_) hs hw
 rw[h1]
 exact thn (hg pins s1 σ H1 x v _ I1 r1 q1) λ _ s2 q=>q
theorem ps_set {i:Nat}{x:Str}{e:Expr}{te:TE}{pos':Pos}(hN:X.N.Nodup) (hi:X.N[i]?=some x) (hx:Loc X.env.scope x) (he:PE X e te) (hs:swapsWith e (some (.Name x pos')) pos.line X.env=pure false:=by rfl) (hf:X.fn x=true\/X.env.scope.names.lookup x=some .local:=by first | exact .inl rfl | exact .inr rfl | assumption):
  PS X (.Assign [.Name x pos'] e pos) (tAsg te (gName i)):=by
 intro pins s σ H D I h
 refine wpAny_Assign_Name (thn (he pins s σ H _ I h) λ v s1 ⟨y,H1,I1,r1,q1⟩=>?_) hs
 exact store_ok I1 hN hi hx r1 (λ s2 I2=>⟨_,H1,I2,q1⟩) hf
end
section
variable {X:Cx}{pos:Pos}
end
structure It where
 go:Nat->Hp->Prop
 yld:Nat->Hp->V->Hp->Prop
 stop:Nat->Hp->Prop
def FpOk (X:Cx) (pins:List (Addr×Obj)) (H:Hp) (b:Addr):Prop:=
 H b=none/\b≠X.env.locals/\b∉X.fs/\(b∈X.ex\/X.s₀.heap.objs.size<=b)/\(∀ x c,X.env.cells.lookup x=some c->c≠b)/\∀ p∈X.pn++pins,p.1≠b
theorem Inv.fpOk {X:Cx}{pins:List (Addr×Obj)}{σ:St}{H H':Hp}{s:Shared}{b:Addr}(I:Inv X pins σ H s) (hb:s.heap.objs.size<=b) (hn:H' b=none):FpOk X pins H' b:=by
 refine⟨hn,Nat.ne_of_gt (Nat.lt_of_lt_of_le I.lt hb),I.nofs hb,.inr (Nat.le_trans I.sz hb),λ x c e z=>?_,λ p hp z=>?_⟩
 ·obtain⟨v,q⟩:=I.cell x c e
  exact absurd (Nat.lt_of_lt_of_le q.lt (by rw[z];exact hb)) (Nat.lt_irrefl _)
 ·exact absurd (Nat.lt_of_lt_of_le (Heap.lt_size (I.pin p hp).1) (by rw[z];exact hb)) (Nat.lt_irrefl _)
structure Turn (P:Program) (w:World) (K:PySem.W.Frag) (tg:Expr) (J:It) (fp:List Addr) (it:Addr) (tn:Nat->Heap->Prop):Prop where
 mem:it∈fp
 obj:∀ i h,tn i h->∀ b∈fp,∃ o,h.get? b=some o/\∀ v,o.data≠.cell v
 keep:∀ i h h',tn i h->(∀ b∈fp,∀ o,h.get? b=some o->h'.get? b=some o)->tn i h'
 item:∀ (X:Cx),X.prog=P->X.w=w->X.K=K->X.calm=true->∀ (i:Nat) (pins:List (Addr×Obj)) (s:Shared) (σ:St) (H:Hp) (E:Value->Shared->Prop),Inv X pins σ H s->(∀ b∈fp,FpOk X pins H b)->tn i s.heap->J.go i H->
  wpAny (model P w) X.A (pyNext (.ref it)) (λ r s1=>∃ u,r=some u/\
   wpAny (model P w) X.A (letOwnedTupleGo tg (.ref it) u) (λ _ s2=>∃ x H',Inv X pins σ H' s2/\RelV x u/\J.yld i H x H'/\tn (i+1) s2.heap/\∀ b∈fp,H' b=none) E s1) E s
 done:∀ (X:Cx),X.prog=P->X.w=w->X.K=K->X.calm=true->∀ (i:Nat) (pins:List (Addr×Obj)) (s:Shared) (σ:St) (H:Hp) (E:Value->Shared->Prop),Inv X pins σ H s->(∀ b∈fp,FpOk X pins H b)->tn i s.heap->J.stop i H->
  wpAny (model P w) X.A (pyNext (.ref it)) (λ r s1=>r=none/\Inv X pins σ H s1) E s
 self:∀ (A:Around) (i:Nat) (s:Shared) (Q:Value->Shared->Prop) (E:Value->Shared->Prop),tn i s.heap->Q (.ref it) s->wpAny (model P w) A (pyIter (.ref it)) Q E s
abbrev TI:=St->Hp->(It->Hp->Prop)->Prop
def PIE (X:Cx) (pins:List (Addr×Obj)) (σ:St) (tg:Expr) (R:It->Hp->Prop) (itv:Value) (s2:Shared):Prop:=
 ∃ (it:Addr) (fp:List Addr) (tn:Nat->Heap->Prop) (J:It) (H':Hp),itv=.ref it/\Inv X pins σ H' s2/\Turn X.prog X.w X.K tg J fp it tn/\tn 0 s2.heap/\(∀ b∈fp,FpOk X pins H' b)/\R J H'
def PI (X:Cx) (tg iter:Expr) (wi:TI):Prop:=
 ∀ (pins:List (Addr×Obj)) (s:Shared) (σ:St) (H:Hp) (R:It->Hp->Prop),Inv X pins σ H s->wi σ H R->
  wpAny (model X.prog X.w) X.A (eval iter X.env) (λ v s1=>wpAny (model X.prog X.w) X.A (pyIter v) (PIE X pins σ tg R) X.xe s1) X.xe s
theorem go_of {M:Model}{A:Around}{E:Value->Shared->Prop}{s:Shared}{tg:Expr}{it:Addr}{u:Value}{o:Obj}{n:String}{vs:Array Value}{Q:Unit->Shared->Prop}(ho:s.heap.get? it=some o) (hc:o.cls=.type n) (hd:o.data=.fields vs)
  (hn:["enumerate","zip","dict_itemiterator","dict_reverseitemiterator","odict_iterator","itertools.zip_longest","itertools.pairwise"].contains n=false) (hQ:Q () s):wpAny M A (letOwnedTupleGo tg (.ref it) u) Q E s:=by
 unfold letOwnedTupleGo
 cases tg <;> first
  | exact wpAny_pure hQ
  | (cases u <;> first
    | exact wpAny_pure hQ
    | (refine wpAny_bind (wpAny_load ho ?_)
       rw[hc,hd]
       show wpAny M A (if (["enumerate","zip","dict_itemiterator","dict_reverseitemiterator","odict_iterator","itertools.zip_longest","itertools.pairwise"].contains n&&vs[0]? == some (rawInt _))=true then _ else _) Q E s
       rw[if_neg (by intro h;rw[hn,Bool.false_and] at h;cases h)]
       exact wpAny_pure hQ))
def Itl (K:PySem.W.Frag) (a:Addr):It:=
 ⟨λ i H=>∃ xs x,SqL K H a xs/\xs[i]?=some x,λ i H x H'=>H'=H/\∀ xs,SqL K H a xs->xs[i]?=some x,λ i H=>∃ xs,SqL K H a xs/\xs.length<=i⟩
def Itt (K:PySem.W.Frag) (a:Addr):It:=
 ⟨λ i H=>∃ xs x,SqT K H a xs/\xs[i]?=some x,λ i H x H'=>H'=H/\∀ xs,SqT K H a xs->xs[i]?=some x,λ i H=>∃ xs,SqT K H a xs/\xs.length<=i⟩
def Itr (lo:Int) (n:Nat):It:=⟨λ i _=>i<n,λ i H x H'=>H'=H/\x=.int (lo+i),λ i _=>n<=i⟩
theorem turn_list {P:Program}{w:World}{K:PySem.W.Frag}{tg:Expr}(a it:Addr):Turn P w K tg (Itl K a) [it] it (λ i h=>h.IsListIter it a i) where
 mem:=by simp
 obj:=λ i h st b hb=>by
  have e:b=it:=by simpa using hb
  subst e
  obtain⟨o,e,c,d⟩:=st
  exact⟨o,e,λ v z=>by rw[d] at z;cases z⟩
 keep:=λ i h h' st k=>st.at λ o e=>k it (by simp) o e
 item:=by
  intro X hP hw hK hc i pins s σ H E I hf st hg
  subst hP hw hK
  obtain⟨xs,x,hq,hx⟩:=hg
  obtain⟨its,rv,p,hz⟩:=I.list hq
  obtain⟨u,hu,ru⟩:=rv.get hx
  obtain⟨f0,f1,f2,f3,f4,f5⟩:=hf it (by simp)
  refine wpAny_pyNext_list_item st p.isList (x:=u) (by simpa using hu) λ h' st' sb=>?_
  have I1:Inv X pins σ H { s with heap:=h' }:=I.turned (t':=s.toks) (λ b o hb e=>(sb.2 b hb).trans e) f0 f1 f3 f4 f5
  obtain⟨o,e,c,d⟩:=id st'
  exact⟨u,rfl,go_of (s:={ s with heap:=h' }) e c d (by decide) ⟨x,H,I1,ru,⟨rfl,λ ys hy=>by rw[I.list_inj hy hq];exact hx⟩,st',λ b hb=>(hf b hb).1⟩⟩
 done:=by
  intro X hP hw hK hc i pins s σ H E I hf st hg
  subst hP hw hK
  obtain⟨xs,hq,hx⟩:=hg
  obtain⟨its,rv,p,hz⟩:=I.list hq
  obtain⟨f0,f1,f2,f3,f4,f5⟩:=hf it (by simp)
  have hl:=rv.length
  exact wpAny_pyNext_list_end (I.ok.hd hc) st p.isList (by simp;omega) λ h' eb=>⟨rfl,I.turned (t':=s.toks) (λ b o hb e=>eb b o hb e) f0 f1 f3 f4 f5⟩
 self:=λ _ _ _ _ _ st h=>wpAny_pyIter_listiter st h
theorem turn_tuple {P:Program}{w:World}{K:PySem.W.Frag}{tg:Expr}(a it:Addr):Turn P w K tg (Itt K a) [it] it (λ i h=>h.IsTupleIter it a i) where
 mem:=by simp
 obj:=λ i h st b hb=>by
  have e:b=it:=by simpa using hb
  subst e
  obtain⟨o,e,c,d⟩:=st
  exact⟨o,e,λ v z=>by rw[d] at z;cases z⟩
 keep:=λ i h h' st k=>st.at λ o e=>k it (by simp) o e
 item:=by
  intro X hP hw hK hc i pins s σ H E I hf st hg
  subst hP hw hK
  obtain⟨xs,x,hq,hx⟩:=hg
  obtain⟨its,rv,p,hz⟩:=I.tuple hq
  obtain⟨u,hu,ru⟩:=rv.get hx
  obtain⟨f0,f1,f2,f3,f4,f5⟩:=hf it (by simp)
  refine wpAny_pyNext_tuple_item st (show s.heap.IsTuple a its.toArray from p) (x:=u) (by simpa using hu) λ h' st' sb=>?_
  have I1:Inv X pins σ H { s with heap:=h' }:=I.turned (t':=s.toks) (λ b o hb e=>(sb.2 b hb).trans e) f0 f1 f3 f4 f5
  obtain⟨o,e,c,d⟩:=id st'
  exact⟨u,rfl,go_of (s:={ s with heap:=h' }) e c d (by decide) ⟨x,H,I1,ru,⟨rfl,λ ys hy=>by rw[I.tuple_inj hy hq];exact hx⟩,st',λ b hb=>(hf b hb).1⟩⟩
 done:=by
  intro X hP hw hK hc i pins s σ H E I hf st hg
  subst hP hw hK
  obtain⟨xs,hq,hx⟩:=hg
  obtain⟨its,rv,p,hz⟩:=I.tuple hq
  obtain⟨f0,f1,f2,f3,f4,f5⟩:=hf it (by simp)
  have hl:=rv.length
  exact wpAny_pyNext_tuple_end (I.ok.hd hc) st (show s.heap.IsTuple a its.toArray from p) (by simp;omega) λ h' eb=>⟨rfl,I.turned (t':=s.toks) (λ b o hb e=>eb b o hb e) f0 f1 f3 f4 f5⟩
 self:=λ _ _ _ _ _ st h=>wpAny_pyIter_tupleiter st h
theorem turn_range {P:Program}{w:World}{K:PySem.W.Frag}{tg:Expr}(it:Addr) (lo:Int) (n:Nat):Turn P w K tg (Itr lo n) [it] it (λ i h=>IsRangeIter h it (lo+(i:Nat)*1) ((n:Int)-(i:Nat)) 1) where
 mem:=by simp
 obj:=λ i h st b hb=>by
  have e:b=it:=by simpa using hb
  subst e
  exact⟨_,st,λ v z=>by
   have z':Data.fields _=Data.cell v:=z
   cases z'⟩
 keep:=λ i h h' st k=>k it (by simp) _ st
 item:=by
  intro X hP hw hK hc i pins s σ H E I hf st hg
  subst hP hw hK
  obtain⟨f0,f1,f2,f3,f4,f5⟩:=hf it (by simp)
  have W:=Walks.range (prog:=X.prog) (w:=X.w) (I.ok.hd hc) it lo 1 n
  refine W.item i s _ _ hg st λ v h' tk hv st' kk=>?_
  obtain⟨t,rfl⟩:=hv
  have I1:Inv X pins σ H { s with heap:=h',toks:=tk }:=I.turned (λ b o hb e=>kk b o (by simpa using hb) e) f0 f1 f3 f4 f5
  refine⟨_,rfl,go_of (s:={ s with heap:=h',toks:=tk }) (n:="range_iterator") st' rfl rfl (by decide) ⟨.int (lo+i),H,I1,⟨t,?_⟩,⟨rfl,rfl⟩,st',λ b hb=>(hf b hb).1⟩⟩
  rw[Int.mul_one]
 done:=by
  intro X hP hw hK hc i pins s σ H E I hf st hg
  subst hP hw hK
  obtain⟨f0,f1,f2,f3,f4,f5⟩:=hf it (by simp)
  exact wpAny_pyNext_range_end (I.ok.hd hc) st (by have:n<=i:=hg;omega) λ h' eb=>⟨rfl,I.turned (t':=s.toks) (λ b o hb e=>eb b o hb e) f0 f1 f3 f4 f5⟩
 self:=λ _ _ _ _ _ st h=>wpAny_pyIter_rangeiter st h
end L2
namespace L2
open PySem PySem.Spec PyProof.Rows
section
variable {X:Cx}{tg:Expr}
theorem range_it {pins:List (Addr×Obj)}{σ:St}{H:Hp}{s:Shared}{R:It->Hp->Prop}{E:Value->Shared->Prop}{lo hi:Int}{t u v:Tok}{tk:Nat}(I:Inv X pins σ H s) (h1:-(2 ^ 62)<=lo) (h2:lo<2 ^ 62) (h3:-(2 ^ 62)<=hi) (h4:hi<2 ^ 62)
  (q:R (Itr lo (hi-lo).toNat) H):wpAny (model X.prog X.w) X.A (pyIter (.ref s.heap.objs.size)) (PIE X pins σ tg R) E { s with heap:=s.heap.push { cls:=.type "range",data:=.fields #[.int lo t,.int hi u,.int 1 v] },toks:=tk }:=by
 refine wpAny_pyIter_range (IsRange.new ..) (small_one h1 h2 h3 h4) ?_
 have I1:Inv X pins σ H { s with heap:=s.heap.push { cls:=.type "range",data:=.fields #[.int lo t,.int hi u,.int 1 v] },toks:=tk }:=I.kept λ b o e=>Heap.get?_push_of_some _ e
 refine⟨(s.heap.push { cls:=.type "range",data:=.fields #[.int lo t,.int hi u,.int 1 v] }).objs.size,[(s.heap.push { cls:=.type "range",data:=.fields #[.int lo t,.int hi u,.int 1 v] }).objs.size],_,_,H,rfl,
  I1.kept (t':=tk) λ b o e=>Heap.get?_push_of_some _ e,turn_range _ lo (hi-lo).toNat,?_,λ b hb=>?_,q⟩
 ·have e1:lo+((0:Nat):Int)*1=lo:=by simp
  have e2:(((hi-lo).toNat:Nat):Int)-((0:Nat):Int)=Builtin.Range.rangeSize lo hi 1:=by rw[rangeSize_one];split <;> omega
  show IsRangeIter _ _ (lo+((0:Nat):Int)*1) ((((hi-lo).toNat:Nat):Int)-((0:Nat):Int)) 1
  rw[e1,e2]
  exact Heap.get?_push_size _ rfl
 ·have e:b=(s.heap.push { cls:=.type "range",data:=.fields #[.int lo t,.int hi u,.int 1 v] }).objs.size:=by simpa using hb
  subst e
  exact I1.fpOk (Nat.le_refl _) (I1.hok.fresh (Nat.le_refl _))
def iRng1 (ta:TA):TI:=fun σ H R=>ta σ H λ vs H1=>∃ j:Int,vs=[.int j]/\-(2 ^ 62)<=j/\j<2 ^ 62/\R (Itr 0 j.toNat) H1
def iRng2 (ta:TA):TI:=fun σ H R=>ta σ H λ vs H1=>∃ i j:Int,vs=[.int i,.int j]/\(-(2 ^ 62)<=i/\i<2 ^ 62/\-(2 ^ 62)<=j/\j<2 ^ 62)/\R (Itr i (j-i).toNat) H1
theorem pi_range1 {a:Expr}{ta:TA}{p pos:Pos}(hg:Gl X "range") (hm:X.mg "range"=none) (ha:PA X [a] ta) (hs:starEach [a] X.env=[(false,eval a X.env)]:=by rfl):PI X tg (.Call (.Name "range" p) [a] [] pos) (iRng1 ta):=by
 intro pins s σ H R I h
 refine Call_ (ld_blt I hg hm boot_range (PyProof.Rows.callWith_type1 (thn (ha pos pins s σ H _ I h) λ us s1 ⟨vs,H1,I1,r1,q1⟩=>?_) hs rfl))
 obtain⟨j,e,q1,q2,q⟩:=q1
 subst e
 cases r1 with
 | cons r rr=>
  cases rr
  obtain⟨t,rfl⟩:=r
  exact call_range_1 (range_it I1 (by omega) (by omega) q1 q2 (by simpa using q))
theorem pi_range2 {a b:Expr}{ta:TA}{p pos:Pos}(hg:Gl X "range") (hm:X.mg "range"=none) (ha:PA X [a,b] ta) (hs:starEach [a,b] X.env=[(false,eval a X.env),(false,eval b X.env)]:=by rfl) (hs2:starEach [b] X.env=[(false,eval b X.env)]:=by rfl):
  PI X tg (.Call (.Name "range" p) [a,b] [] pos) (iRng2 ta):=by
 intro pins s σ H R I h
 refine Call_ (ld_blt I hg hm boot_range (PyProof.Rows.callWith_type1 (thn (ha pos pins s σ H _ I h) λ us s1 ⟨vs,H1,I1,r1,q1⟩=>?_) (by rw[hs,hs2]) (by rw[hs2];rfl)))
 obtain⟨i,j,e,⟨q1,q2,q3,q4⟩,q⟩:=q1
 subst e
 cases r1 with
 | cons r rr=>
  cases rr with
  | cons r' rr=>
   cases rr
   obtain⟨t,rfl⟩:=r
   obtain⟨t',rfl⟩:=r'
   exact call_range_2 (range_it I1 q1 q2 q3 q4 q)
def tFor (wi:TI) (g:TG) (tb:TS):TS:=λ D σ H=>wi σ H λ J H1=>∃ W:Nat->Nat->St->Hp->Prop,(∃ m,W 0 m σ H1)/\∀ i m σ H,W i m σ H->
 (J.stop i H/\D.nx σ H)\/(J.go i H/\∃ N:St->Hp->Prop,(∀ σ' H',N σ' H'->∃ m',m'<m/\W (i+1) m' σ' H')/\∀ x H',J.yld i H x H'->g x σ H' fun σ2 H2=>tb { D with nx:=N,ct:=N,bk:=D.nx } σ2 H2)
noncomputable def pinsAt (fp:List Addr) (h:Heap):List (Addr×Obj):=fp.filterMap λ b=>(h.get? b).map λ o=>(b,o)
theorem mem_pinsAt {fp:List Addr}{h:Heap}{b:Addr}{o:Obj}(hb:b∈fp) (e:h.get? b=some o):(b,o)∈pinsAt fp h:=List.mem_filterMap.mpr ⟨b,hb,by rw[e];rfl⟩
theorem of_pinsAt {fp:List Addr}{h:Heap}{p:Addr×Obj}(hp:p∈pinsAt fp h):p.1∈fp/\h.get? p.1=some p.2:=by
 obtain⟨b,hb,e⟩:=List.mem_filterMap.mp hp
 cases q:h.get? b with
 | none=>rw[q] at e;cases e
 | some o=>
  rw[q] at e
  have e':(b,o)=p:=Option.some.inj e
  subst e'
  exact⟨hb,q⟩
theorem Inv.pinned {pins:List (Addr×Obj)}{σ:St}{H:Hp}{s:Shared}{fp:List Addr}(I:Inv X pins σ H s) (hf:∀ b∈fp,FpOk X pins H b) (ho:∀ b∈fp,∃ o,s.heap.get? b=some o/\∀ v,o.data≠.cell v):Inv X (pins++pinsAt fp s.heap) σ H s:=
 I.pins_of λ p hp=>(List.mem_append.mp hp).elim (λ z=>I.pin p (List.mem_append_right _ z)) λ z=>by
  obtain⟨hb,e⟩:=of_pinsAt z
  obtain⟨f0,f1,f2,_⟩:=hf p.1 hb
  obtain⟨o,e',d⟩:=ho p.1 hb
  rw[e] at e';cases e'
  exact⟨e,f0,f1,f2,d⟩
theorem Inv.unpinned {pins pl:List (Addr×Obj)}{σ:St}{H:Hp}{s:Shared}(I:Inv X (pins++pl) σ H s):Inv X pins σ H s:=I.pins_of λ p hp=>I.pin p (List.mem_append_right _ (List.mem_append_left _ hp))
theorem ps_for {iter:Expr}{body:List Stmt}{wi:TI}{g:TG}{tb:TS}{pos:Pos}(hp:PassesOwn (model X.prog X.w) X.A X.env X.xe) (hc:X.calm=true) (hi:PI X tg iter wi) (hg:PG X tg g) (hb:PSs X body tb)
  (hs:∀ x,foldedSetIterable iter X.env x=pure x:=by intro _;rfl):PS X (.For tg iter body [] pos) (tFor wi g tb):=by
 intro pins s σ H D I h
 refine wpAny_For (thn (hi pins s σ H _ I h) λ v s1 h1=>thn h1 λ itv s2 h2=>?_) hs
 obtain⟨it,fp,tn,J,H2,e,I2,T,st2,f2,W,⟨m0,w0⟩,turn⟩:=h2
 subst e
 -- what stays true of the iterator's objects through the loop
 have stat:∀ {H':Hp},(∀ b∈fp,H' b=none)->∀ b∈fp,FpOk X pins H' b:=λ hn b hb=>⟨hn b hb,(f2 b hb).2⟩
 refine codeAny_forLoop_any (λ n s'=>∃ i σ' H',Inv X pins σ' H' s'/\tn i s'.heap/\(∀ b∈fp,H' b=none)/\W i n σ' H') ?_ m0 ⟨0,σ,H2,I2,st2,λ b hb=>(f2 b hb).1,w0⟩
 rintro n s3 ⟨i,σ3,H3,I3,st3,fr3,w3⟩
 rcases turn i n σ3 H3 w3 with ⟨stop,qn⟩ | ⟨go,N,hN,step⟩
 ·refine wpAny_passesOwn hp (thn (T.done X rfl rfl rfl hc i pins s3 σ3 H3 X.xe I3 (stat fr3) st3 stop) λ r s4 ⟨hr,I4⟩=>?_)
  subst hr
  exact wpAny_execs_nil ⟨σ3,H3,I4,qn⟩
 ·refine wpAny_passesOwn hp (thn (T.item X rfl rfl rfl hc i pins s3 σ3 H3 X.xe I3 (stat fr3) st3 go) λ r s4 ⟨u,hr,h4⟩=>?_)
  subst hr
  refine wpAny_passesOwn hp (thn h4 λ _ s5 ⟨x,H5,I5,r5,y5,st5,fr5⟩=>?_)
  have I5':=I5.pinned (stat fr5) (T.obj _ _ st5)
  refine wpAny_passesOwn hp (thn (hg _ s5 σ3 H5 x u _ I5' r5 (step x H5 y5)) λ _ s6 ⟨σ6,H6,I6,q6⟩=>?_)
  refine wpAny_passesOwn hp (thn (hb _ s6 σ6 H6 _ I6 q6) λ f s7 q7=>?_)
  have again:∀ {σ7:St}{H7:Hp},Inv X (pins++pinsAt fp s5.heap) σ7 H7 s7->N σ7 H7->∃ m,m<n/\∃ i σ' H',Inv X pins σ' H' s7/\tn i s7.heap/\(∀ b∈fp,H' b=none)/\W i m σ' H':=λ{σ7 H7} I7 n7=>by
   obtain⟨m',hm,w7⟩:=hN σ7 H7 n7
   refine⟨m',hm,i+1,σ7,H7,I7.unpinned,T.keep _ _ _ st5 λ b hb o e=>(I7.pin (b,o) (List.mem_append_right _ (List.mem_append_right _ (mem_pinsAt hb e)))).1,λ b hb=>?_,w7⟩
   obtain⟨o,e,d⟩:=T.obj _ _ st5 b hb
   exact (I7.pin (b,o) (List.mem_append_right _ (List.mem_append_right _ (mem_pinsAt hb e)))).2.1
  cases f with
  | next=>obtain⟨σ7,H7,I7,n7⟩:=q7;exact again I7 n7
  | cont=>obtain⟨σ7,H7,I7,n7⟩:=q7;exact again I7 n7
  | brk=>obtain⟨σ7,H7,I7,q7⟩:=q7;exact⟨σ7,H7,I7.unpinned,q7⟩
  | ret v=>obtain⟨x7,σ7,H7,I7,r7,q7⟩:=q7;exact⟨x7,σ7,H7,I7.unpinned,r7,q7⟩
end
end L2
namespace L2
open PySem PySem.Spec PyProof.Rows
abbrev R2:=V->V->Hp->VK->Prop
def OpR (X:Cx) (f:Value->Value->Sem Value) (r:R2):Prop:=
 ∀ (pins:List (Addr×Obj)) (s:Shared) (σ:St) (H:Hp) (x y:V) (v u:Value) (Q:VK),Inv X pins σ H s->RelV x v->RelV y u->r x y H Q->
  wpAny (model X.prog X.w) X.A (f v u) (EP X pins σ Q) X.xe s
def CallR (X:Cx) (f:Value) (r:List V->Hp->VK->Prop):Prop:=
 ∀ (pins:List (Addr×Obj)) (s:Shared) (σ:St) (H:Hp) (xs:List V) (us:List Value) (Q:VK),Inv X pins σ H s->Vals xs us->r xs H Q->
  wpAny (model X.prog X.w) X.A (call f us) (EP X pins σ Q) X.xe s
def TruR (X:Cx) (r:V->Hp->(Bool->Hp->Prop)->Prop):Prop:=
 ∀ (pins:List (Addr×Obj)) (s:Shared) (σ:St) (H:Hp) (x:V) (v:Value) (Q:Bool->Hp->Prop),Inv X pins σ H s->RelV x v->r x H Q->
  wpAny (model X.prog X.w) X.A (truthy v) (TP X pins σ Q) X.xe s
def tOp (r:R2) (ta tb:TE):TE:=fun σ H Q=>ta σ H λ x H1=>tb σ H1 λ y H2=>r x y H2 Q
def rI (C:Int->Int->Prop) (g:Int->Int->V):R2:=λ x y H Q=>∃ i j,x=.int i/\y=.int j/\C i j/\Q (g i j) H
def rI0 (g:Int->Int->V):R2:=λ x y H Q=>∃ i j,x=.int i/\y=.int j/\Q (g i j) H
section
variable {X:Cx}{a b c:Expr}{ta tb tc:TE}{pos:Pos}
theorem binT (ha:PE X a ta) (hb:PE X b tb) {pins:List (Addr×Obj)}{s:Shared}{σ:St}{H:Hp}{R:V->V->Hp->Prop}(I:Inv X pins σ H s)
  (h:ta σ H λ x H1=>tb σ H1 λ y H2=>R x y H2) {Q:Value->Shared->Prop}{f:Value->Value->Sem Value}
  (hf:∀ v u s2 x y H2,Inv X pins σ H2 s2->RelV x v->RelV y u->R x y H2->wpAny (model X.prog X.w) X.A (f v u) Q X.xe s2):
  wpAny (model X.prog X.w) X.A (eval a X.env) (λ v s₁=>wpAny (model X.prog X.w) X.A (eval b X.env) (λ u s₂=>wpAny (model X.prog X.w) X.A (f v u) Q X.xe s₂) X.xe s₁) X.xe s:=by
 refine thn (ha pins s σ H _ I h) λ v s1 ⟨x,H1,I1,r1,q1⟩=>?_
 refine thn (hb pins s1 σ H1 _ I1 q1) λ u s2 ⟨y,H2,I2,r2,q2⟩=>?_
 exact hf v u s2 x y H2 I2 r1 r2 q2
theorem pe_op {op:Operator}{r:R2}(ho:OpR X (binaryOp op) r) (ha:PE X a ta) (hb:PE X b tb):PE X (.BinOp a op b pos) (tOp r ta tb):=by
 intro pins s σ H Q I h
 exact wpAny_BinOp (binT ha hb I h λ v u s2 x y H2 I2 rx ry q=>ho pins s2 σ H2 x y v u Q I2 rx ry q)
theorem opI {f:Value->Value->Sem Value}{C:Int->Int->Prop}{g:Int->Int->Int}
  (rule:∀ (i j:Int) (t u:Tok) (s:Shared) (Q:Value->Shared->Prop) (E:Value->Shared->Prop),C i j->Q (.int (g i j) s.toks) { s with toks:=s.toks+1 }->wpAny (model X.prog X.w) X.A (f (.int i t) (.int j u)) Q E s):
  OpR X f (rI C λ i j=>.int (g i j)):=by
 intro pins s σ H x y v u Q I rx ry h
 obtain⟨i,j,rfl,rfl,hc,q⟩:=h
 obtain⟨t,rfl⟩:=rx
 obtain⟨t',rfl⟩:=ry
 exact rule i j t t' s _ _ hc ⟨.int (g i j),H,I.tok _,⟨_,rfl⟩,q⟩
theorem opI0 {f:Value->Value->Sem Value}{g:Int->Int->Int}
  (rule:∀ (i j:Int) (t u:Tok) (s:Shared) (Q:Value->Shared->Prop) (E:Value->Shared->Prop),Q (.int (g i j) s.toks) { s with toks:=s.toks+1 }->wpAny (model X.prog X.w) X.A (f (.int i t) (.int j u)) Q E s):
  OpR X f (rI0 λ i j=>.int (g i j)):=by
 intro pins s σ H x y v u Q I rx ry h
 obtain⟨i,j,rfl,rfl,q⟩:=h
 obtain⟨t,rfl⟩:=rx
 obtain⟨t',rfl⟩:=ry
 exact rule i j t t' s _ _ ⟨.int (g i j),H,I.tok _,⟨_,rfl⟩,q⟩
theorem opB0 {f:Value->Value->Sem Value}{g:Int->Int->Bool}
  (rule:∀ (i j:Int) (t u:Tok) (s:Shared) (Q:Value->Shared->Prop) (E:Value->Shared->Prop),Q (.bool (g i j)) s->wpAny (model X.prog X.w) X.A (f (.int i t) (.int j u)) Q E s):
  OpR X f (rI0 λ i j=>.bl (g i j)):=by
 intro pins s σ H x y v u Q I rx ry h
 obtain⟨i,j,rfl,rfl,q⟩:=h
 obtain⟨t,rfl⟩:=rx
 obtain⟨t',rfl⟩:=ry
 exact rule i j t t' s _ _ ⟨.bl (g i j),H,I,rfl,q⟩
def CDiv (i j:Int):Prop:=0<j/\j<1073741824
def CPow (i j:Int):Prop:=0<=j/\j<=1000000/\i.natAbs<2 ^ 64
def CMul (i j:Int):Prop:=(-(2 ^ 64)<i/\i<2 ^ 64)\/(-(2 ^ 64)<j/\j<2 ^ 64)
theorem CMul.ok {i j:Int}(h:CMul i j):IntMulOk i j:=by
 rcases h with ⟨h1,h2⟩ | ⟨h1,h2⟩
 ·exact .of_left (intBits_le_64 h1 h2)
 ·exact .of_right (intBits_le_64 h1 h2)
theorem two_pow_nn (k:Nat):(0:Int)<=2 ^ k:=by
 rw[two_pow_cast]
 exact Int.natCast_nonneg _
theorem op_add:OpR X (binaryOp .Add) (rI0 λ i j=>.int (i+j)):=opI0 λ _ _ _ _ _ _ _ q=>add_int q
theorem op_sub:OpR X (binaryOp .Sub) (rI0 λ i j=>.int (i-j)):=opI0 λ _ _ _ _ _ _ _ q=>sub_int q
theorem op_mul:OpR X (binaryOp .Mult) (rI CMul λ i j=>.int (i*j)):=opI λ _ _ _ _ _ _ _ hc q=>mul_int q hc.ok
theorem op_fdiv:OpR X (binaryOp .FloorDiv) (rI CDiv λ i j=>.int (i/j)):=opI λ i j _ _ _ _ _ hc q=>by
 have h1:(0:Int)<j:=hc.1
 have h2:j<1073741824:=hc.2
 exact floordiv_int (by omega) (by rw[Int.fdiv_eq_ediv_of_nonneg i (by omega)];exact q) (.inl (PyProof.noPylong_small (by omega)))
theorem op_mod:OpR X (binaryOp .Mod) (rI (λ _ j=>0<j) λ i j=>.int (i%j)):=opI λ i j _ _ _ _ _ hc q=>by
 have h1:(0:Int)<j:=hc
 exact mod_int' (by omega) (by rw[Int.fmod_eq_emod_of_nonneg i (by omega)];exact q)
theorem op_pow:OpR X (binaryOp .Pow) (rI CPow λ i j=>.int (i ^ j.toNat)):=opI λ _ _ _ _ _ _ _ hc q=>pow_int_small hc.1 hc.2.1 hc.2.2 q
theorem op_shr:OpR X (binaryOp .RShift) (rI (λ _ j=>0<=j) λ i j=>.int (i/2 ^ j.toNat)):=opI λ i j _ _ _ _ _ hc q=>
 rshift_int hc (by rw[Int.fdiv_eq_ediv_of_nonneg i (two_pow_nn _)];exact q)
theorem op_and:OpR X (binaryOp .BitAnd) (rI0 λ i j=>.int (Builtin.bitAnd i j)):=opI0 λ _ _ _ _ _ _ _ q=>and_int q
end
section
variable {X:Cx}{a b c:Expr}{ta tb tc:TE}{pos:Pos}
theorem fin_bl {pins:List (Addr×Obj)}{σ:St}{H:Hp}{s:Shared}{Q:VK}{k k':Bool}(I:Inv X pins σ H s) (q:Q (.bl k) H) (e:k=k'):EP X pins σ Q (.bool k') s:=by
 subst e
 exact⟨.bl k,H,I,rfl,q⟩
theorem op_lt:OpR X (compareOp .Lt) (rI0 λ i j=>.bl (decide (i<j))):=opB0 λ _ _ _ _ _ _ _ q=>lt_int q
theorem op_le:OpR X (compareOp .LtE) (rI0 λ i j=>.bl (decide (i<=j))):=opB0 λ _ _ _ _ _ _ _ q=>le_int q
theorem op_gt:OpR X (compareOp .Gt) (rI0 λ i j=>.bl (decide (j<i))):=opB0 λ _ _ _ _ _ _ _ q=>gt_int q
theorem op_ge:OpR X (compareOp .GtE) (rI0 λ i j=>.bl (decide (j<=i))):=opB0 λ _ _ _ _ _ _ _ q=>ge_int q
theorem op_isN:OpR X (compareOp .Is) (λ x y H Q=>y=.non/\Q (.bl (decide (x=.non))) H):=by
 intro pins s σ H x y v u Q I rx ry h
 obtain⟨rfl,q⟩:=h
 cases ry
 refine is_none_gen (fin_bl I q ?_)
 cases x <;> first
  | (cases rx;rfl)
  | (obtain⟨t,rfl⟩:=rx;rfl)
theorem op_notN:OpR X (compareOp .IsNot) (λ x y H Q=>y=.non/\Q (.bl (!decide (x=.non))) H):=by
 intro pins s σ H x y v u Q I rx ry h
 obtain⟨rfl,q⟩:=h
 cases ry
 refine isnot_none_gen (fin_bl I q ?_)
 cases x <;> first
  | (cases rx;rfl)
  | (obtain⟨t,rfl⟩:=rx;rfl)
theorem OpR.or {f:Value->Value->Sem Value}{r r':R2}(h:OpR X f r) (h':OpR X f r'):OpR X f (λ x y H Q=>r x y H Q\/r' x y H Q):=by
 intro pins s σ H x y v u Q I rx ry q
 rcases q with q | q
 ·exact h pins s σ H x y v u Q I rx ry q
 ·exact h' pins s σ H x y v u Q I rx ry q
theorem nomark (b:Expr) {op:CmpOp}(h:op≠.In:=by decide) (h2:op≠.NotIn:=by decide):behindInMarks op b=false:=by
 have e1:(op == CmpOp.In)=false:=by cases op <;> first | rfl | exact absurd rfl h
 have e2:(op == CmpOp.NotIn)=false:=by cases op <;> first | rfl | exact absurd rfl h2
 cases b <;> simp[behindInMarks,e1,e2]
theorem pe_cmpR {op:CmpOp}{r:R2}(ho:OpR X (compareOp op) r) (ha:PE X a ta) (hb:PE X b tb) (hm:behindInMarks op b=false):PE X (.Compare a [op] [b] pos) (tOp r ta tb):=by
 intro pins s σ H Q I h
 exact wpAny_Compare1 (binT ha hb I h λ v u s2 x y H2 I2 rx ry q=>ho pins s2 σ H2 x y v u Q I2 rx ry q) hm
def tTest (t:TE):TT:=fun σ H Q=>t σ H λ x H'=>∃ k,x=.bl k/\Q k H'
theorem pt_cmpR {op:CmpOp}{r:R2}(ho:OpR X (compareOp op) r) (ha:PE X a ta) (hb:PE X b tb) (hm:behindInMarks op b=false):PT X (.Compare a [op] [b] pos) (tTest (tOp r ta tb)):=by
 intro pins s σ H Q I h
 refine wpAny_isTrue_Compare1 (thn (ha pins s σ H _ I h) λ v s1 ⟨x,H1,I1,r1,q1⟩=>thn (hb pins s1 σ H1 _ I1 q1) λ u s2 ⟨y,H2,I2,r2,q2⟩=>
  thn (ho pins s2 σ H2 x y v u _ I2 r1 r2 q2) λ c s3 ⟨z,H3,I3,r3,k,e,q3⟩=>?_) hm
 subst e
 cases r3
 exact wpAny_truthy_bool ⟨H3,I3,q3⟩
def tChain (r r':R2) (ta tb tc:TE):TE:=fun σ H Q=>ta σ H λ x H1=>tb σ H1 λ y H2=>r x y H2 λ z H3=>∃ k,z=.bl k/\
 (if k=true then tc σ H3 λ w' H4=>r' y w' H4 Q else Q (.bl false) H3)
theorem pe_chain {op op':CmpOp}{r r':R2}(ho:OpR X (compareOp op) r) (ho':OpR X (compareOp op') r') (ha:PE X a ta) (hb:PE X b tb) (hc:PE X c tc)
  (hm:lastMarks [op,op'] [b,c]=false:=by with_unfolding_all rfl):PE X (.Compare a [op,op'] [b,c] pos) (tChain r r' ta tb tc):=by
 intro pins s σ H Q I h
 refine Compare_chain (thn (ha pins s σ H _ I h) λ v s1 ⟨x,H1,I1,r1,q1⟩=>chain_link (thn (hb pins s1 σ H1 _ I1 q1) λ u s2 ⟨y,H2,I2,r2,q2⟩=>
  thn (ho pins s2 σ H2 x y v u _ I2 r1 r2 q2) λ d s3 ⟨z,H3,I3,r3,k,e,q3⟩=>?_)) hm
 subst e
 cases r3
 refine wpAny_truthy_bool ?_
 cases k with
 | false=>exact ite_ff ⟨.bl false,H3,I3,rfl,q3⟩
 | true=>exact ite_tt (chain_last (thn (hc pins s3 σ H3 _ I3 q3) λ w' s4 ⟨z',H4,I4,r4,q4⟩=>ho' pins s4 σ H4 y z' u w' Q I4 r2 r4 q4))
def TruV (K:PySem.W.Frag) (x:V) (H:Hp) (k:Bool):Prop:=
 match x with
 | .non=>k=false
 | .bl b=>k=b
 | .int i=>k=(i != 0)
 | .str y=>y.length<=sizeLine/\k=((y.length:Int) != 0)
 | .byt y=>y.size<=sizeLine/\k=((y.size:Int) != 0)
 | .ref p=>(∃ xs,SqL K H p xs/\k=!xs.isEmpty)\/(∃ xs,SqT K H p xs/\k=!xs.isEmpty)\/∃ kvs,H p=some (.dK kvs)/\k=!kvs.isEmpty
 | _=>False
theorem isEmpty_kv {κ:Type}{kvs:List (κ × V)}{vs:List (κ × Value)}(r:KV kvs vs):(!vs.isEmpty)=!kvs.isEmpty:=by
 cases r <;> rfl
theorem isEmpty_of {xs:List V}{its:List Value}(r:Vals xs its):(!its.toArray.isEmpty)=!xs.isEmpty:=by
 cases r <;> simp
theorem line63:(sizeLine:Nat)<2 ^ 63:=by rw[sizeLine_eq];decide
theorem tru_ok:TruR X (λ x H Q=>∃ k,TruV X.K x H k/\Q k H):=by
 intro pins s σ H x v Q I rx h
 obtain⟨k,e,q⟩:=h
 have hl:=line63
 have hs:sizeLine=16777216:=sizeLine_eq
 cases x with
 | non=>
  cases rx
  have e':k=false:=e
  subst e'
  exact truthy_none ⟨H,I,q⟩
 | bl b=>
  cases rx
  have e':k=b:=e
  subst e'
  exact wpAny_truthy_bool ⟨H,I,q⟩
 | int i=>
  obtain⟨t,rfl⟩:=rx
  have e':k=(i != 0):=e
  subst e'
  exact PySem.P.truthy_int ⟨H,I,q⟩
 | str y=>
  obtain⟨t,rfl⟩:=rx
  obtain⟨hy,e'⟩:y.length<=sizeLine/\k=((y.length:Int) != 0):=e
  subst e'
  exact PySem.P.truthy_str (by omega) ⟨H,I.tok _,q⟩
 | byt y=>
  obtain⟨t,rfl⟩:=rx
  obtain⟨hy,e'⟩:y.size<=sizeLine/\k=((y.size:Int) != 0):=e
  subst e'
  exact PySem.W.truthy_bytes (by omega) ⟨H,I.tok _,q⟩
 | ref p=>
  cases rx
  have e':(∃ xs,SqL X.K H p xs/\k=!xs.isEmpty)\/(∃ xs,SqT X.K H p xs/\k=!xs.isEmpty)\/∃ kvs,H p=some (.dK kvs)/\k=!kvs.isEmpty:=e
  rcases e' with ⟨xs,hx,e'⟩ | ⟨xs,hx,e'⟩ | ⟨kvs,hx,e'⟩
  ·subst e'
   obtain⟨its,r,pl,hz⟩:=I.list hx
   have hlen:=r.length
   exact wpAny_truthy_list pl.isList (by simp only[List.size_toArray];omega) ⟨H,I.tok _,by rw[isEmpty_of r];exact q⟩
  ·subst e'
   obtain⟨its,r,pl,hz⟩:=I.tuple hx
   have hlen:=r.length
   exact truthy_tuple pl (by simp only[List.size_toArray];omega) ⟨H,I.tok _,by rw[isEmpty_of r];exact q⟩
  ·subst e'
   obtain⟨hz,hS,vs,r,m⟩:kvs.length<=sizeLine/\(p == sysModules)=false/\∃ vs,KV kvs vs/\s.heap.DictOf (mixKind X.prog X.w) p vs:=I.hok p _ hx
   have hlen:kvs.length=vs.length:=Paired.length r
   exact wpAny_truthy_dict hS m (by omega) ⟨H,I.tok _,by rw[isEmpty_kv r];exact q⟩
 | _=>exact (show False from e).elim
theorem pt_truth (ha:PE X a ta) (he:∀ whole,isTrue a X.env whole=(do let v <- whole;standAt a.pos;holding [v] (truthy v))):
  PT X a (fun σ H Q=>ta σ H λ x H'=>∃ k,TruV X.K x H' k/\Q k H'):=by
 intro pins s σ H Q I h
 exact isTrue_plain (thn (ha pins s σ H _ I h) λ v s1 ⟨x,H1,I1,r1,q1⟩=>tru_ok pins s1 σ H1 x v Q I1 r1 q1) (he _)
theorem op_add_str:OpR X (binaryOp .Add) (λ x y H Q=>∃ i j,x=.str i/\y=.str j/\i.length+j.length<=sizeLine/\Q (.str (i++j)) H):=by
 intro pins s σ H x y v u Q I rx ry h
 obtain⟨i,j,rfl,rfl,hz,q⟩:=h
 obtain⟨t,rfl⟩:=rx
 obtain⟨t',rfl⟩:=ry
 exact add_str (λ t' tk=>⟨.str (i++j),H,I.tok _,⟨_,rfl⟩,q⟩) hz
theorem vals1 {x:V}{us:List Value}(r:Vals [x] us):∃ u,us=[u]/\RelV x u:=by
 cases r with
 | cons r1 r2=>cases r2;exact⟨_,rfl,r1⟩
theorem vals2 {x y:V}{us:List Value}(r:Vals [x,y] us):∃ u w',us=[u,w']/\RelV x u/\RelV y w':=by
 cases r with
 | cons r1 r2=>
  cases r2 with
  | cons r3 r4=>cases r4;exact⟨_,_,rfl,r1,r3⟩
theorem call_min2 (hc:X.calm=true):CallR X (.builtin "min") (λ xs H Q=>∃ i j,xs=[.int i,.int j]/\Q (.int (if j<i then j else i)) H):=by
 intro pins s σ H xs us Q I r h
 obtain⟨i,j,rfl,q⟩:=h
 obtain⟨u,w',rfl,⟨t,rfl⟩,⟨t',rfl⟩⟩:=vals2 r
 refine min_two_ints (I.ok.hd hc) λ h' tk k=>⟨_,H,I.kept k,?_,q⟩
 by_cases hj:j<i
 ·rw[if_pos hj,if_pos hj];exact⟨_,rfl⟩
 ·rw[if_neg hj,if_neg hj];exact⟨_,rfl⟩
end
end L2
namespace L2
open PySem PySem.Spec PyProof.Rows
section
variable {prog:Program}{w:World}{A:Around}{E:Value->Shared->Prop}{s:Shared}{K:PySem.W.Frag}{x dx C f:Addr}{mA:Str->Option Value}{name:Str}{v:Value}
end
theorem handed_of {v:V}{u:Value}(r:RelV v u):PySem.W.handedIn u=true:=by
 cases v with
 | non=>cases (show u=Value.none from r);rfl
 | bl b=>cases (show u=Value.bool b from r);rfl
 | int i=>obtain⟨t,e⟩:=(show ∃ t,u=Value.int i t from r);cases e;rfl
 | str x=>obtain⟨t,e⟩:=(show ∃ t,u=Value.str x t from r);cases e;rfl
 | byt b=>obtain⟨t,e⟩:=(show ∃ t,u=Value.bytes b t from r);cases e;rfl
 | flt b=>obtain⟨t,e⟩:=(show ∃ t,u=Value.float b t from r);cases e;rfl
 | ref a=>cases (show u=Value.ref a from r);rfl
 | ty n=>cases (show u=Value.type n from r);rfl
section
variable {P:Program}{w:World}{H H':Hp}{h h':Heap}{a C dx:Addr}{fs fs':List (Str×V)}
end
section
variable {X:Cx}{pins:List (Addr×Obj)}{σ:St}{H:Hp}{s:Shared}{a C dx:Addr}{fs:List (Str×V)}{f:Str}{v:V}{A:Around}{E:Value->Shared->Prop}
theorem attr_of {prog:Program}{w:World}{env:Env}{e:Expr}{f:Str}{pos:Pos}{s:Shared}{Q:Value->Shared->Prop}(hb:attributeBase e f env (eval e env)=eval e env)
  (h:wpAny (model prog w) A (eval e env) (λ o s₁=>wpAny (model prog w) A (getAttr o f true) Q E s₁) E s):wpAny (model prog w) A (eval (.Attribute e f pos) env) Q E s:=
 Attribute_any_ h (by rw[arm_eval_Attribute,hb])
end
section
variable {X:Cx}{o e value:Expr}{f:Str}{pos pos' tpos:Pos}{ta tv:TE}
end
section
variable {X:Cx}{pins:List (Addr×Obj)}{σ:St}{H:Hp}{s:Shared}{A:Around}{E:Value->Shared->Prop}{Q:Value->Shared->Prop}{c:Value}{b:Bool}
end
end L2
namespace L2
open PySem PySem.Spec PyProof.Rows
structure Room (k:Nat) (A:Around):Prop where
 hd:A.handled=none
 dp:A.depth+3*k+5<recursionLimit
 un:A.units+16*k+200<cLine
theorem Room.mono {j k:Nat}{A:Around}(r:Room k A) (h:j<=k):Room j A:=⟨r.hd,by have:=r.dp;omega,by have:=r.un;omega⟩
theorem Room.deeper {k:Nat}{A:Around}(r:Room (k+1) A) (env:Env):Room k (A.deeper env):=
 ⟨r.hd,by have:=r.dp;show A.depth+1+3*k+5<_;omega,by have:=r.un;show A.units+3+16*k+200<_;omega⟩
theorem make_depth {A:Around}{C:Addr}{us:List Value}{kw:List (Str×Value)}:(A.under (.builtin "type.__call__" ⟨.ref C::us,kw⟩)).depth=A.depth+1:=by
 first | rfl | simp[Around.under,Code.weight,Code.isCreation,Code.isGuard,Code.isCaller,Code.frames,Code.isFrame,guardIds]
theorem make_units {A:Around}{C:Addr}{us:List Value}{kw:List (Str×Value)}:(A.under (.builtin "type.__call__" ⟨.ref C::us,kw⟩)).units=A.units+1:=by
 first | rfl | simp[Around.under,Code.cUnits,Code.frames,Code.isFrame]
theorem Room.make {k:Nat}{A:Around}(r:Room (k+1) A) (C:Addr) (us:List Value) (kw:List (Str×Value)):Room k (A.under (.builtin "type.__call__" ⟨.ref C::us,kw⟩)):=
 ⟨r.hd,by have:=r.dp;rw[make_depth];omega,by have:=r.un;rw[make_units];omega⟩
theorem Room.depth {k:Nat}{A:Around}(r:Room k A):A.depth<recursionLimit:=by have:=r.dp;omega
theorem Room.units {k:Nat}{A:Around}(r:Room k A):A.units+64<cLine:=by have:=r.un;omega
theorem Room.units0 {k:Nat}{A:Around}(r:Room k A):A.units<cLine:=by have:=r.un;omega
def tNil:TA:=λ _ H Q=>Q [] H
def tCons (ta:TE) (tr:TA):TA:=fun σ H Q=>ta σ H λ x H1=>tr σ H1 λ xs H2=>Q (x::xs) H2
section
variable {X:Cx}{e:Expr}{es:List Expr}{te:TE}{t:TA}{pos:Pos}
theorem pa_nil:PA X [] tNil:=λ _ _ _ _ H Q I h=>Calls.spliced_nil ⟨[],H,I,.nil,h⟩
theorem pa_cons (ha:PE X e te) (hr:PA X es t) (hs:starEach (e::es) X.env=(false,eval e X.env)::starEach es X.env:=by rfl):PA X (e::es) (tCons te t):=by
 intro pos pins s σ H Q I h
 rw[hs]
 show wpAny _ _ (spliced ((false,eval e X.env)::backTo pos (starEach es X.env))) _ _ s
 refine Calls.spliced_cons (thn (ha pins s σ H _ I h) λ u s1 ⟨x,H1,I1,r1,q1⟩=>?_)
 exact thn (hr pos pins s1 σ H1 _ I1 q1) λ us s2 ⟨xs,H2,I2,r2,q2⟩=>⟨x::xs,H2,I2,.cons r1 r2,q2⟩
def tTup (t:TA):TE:=fun σ H Q=>t σ H λ xs H1=>xs.length<=sizeLine/\∀ p,H1 p=none->Q (.ref p) (upd H1 p (.tup xs))
def tLst (t:TA):TE:=fun σ H Q=>t σ H λ xs H1=>xs.length<=sizeLine/\∀ p,H1 p=none->Q (.ref p) (upd H1 p (.lst xs))
theorem pe_tup {x1} (h:PA X es t):PE X (.Tuple es x1 pos) (tTup t):=by
 intro pins s σ H Q I hq
 refine wpAny_Tuple_spliced (thn (h pos pins s σ H _ I hq) λ us s1 ⟨xs,H1,I1,r,z,q⟩=>⟨by rw[<- r.length];exact z,?_⟩)
 have hf:H1 s1.heap.objs.size=none:=I1.hok.fresh (Nat.le_refl _)
 refine⟨.ref s1.heap.objs.size,upd H1 s1.heap.objs.size (.tup xs),I1.laid (t':=s1.toks) (λ b u e=>Heap.get?_push_of_some _ e) (Nat.le_refl _) ?_,rfl,q _ hf⟩
 exact⟨z,us,r,⟨_,Heap.get?_push_size _ rfl,rfl,_,rfl⟩⟩
theorem pe_lst (h:PA X es t):PE X (.List es pos) (tLst t):=by
 intro pins s σ H Q I hq
 refine wpAny_List_spliced (thn (h pos pins s σ H _ I hq) λ us s1 ⟨xs,H1,I1,r,z,q⟩=>⟨by rw[<- r.length];exact z,?_⟩)
 have hf:H1 s1.heap.objs.size=none:=I1.hok.fresh (Nat.le_refl _)
 refine⟨.ref s1.heap.objs.size,upd H1 s1.heap.objs.size (.lst xs),I1.laid (t':=s1.toks) (λ b u e=>Heap.get?_push_of_some _ e) (Nat.le_refl _) ?_,rfl,q _ hf⟩
 exact⟨z,us,0,r,Heap.get?_push_size _ rfl⟩
end
abbrev Sp:=List V->Hp->VK->XK->Prop
abbrev CXT:=List Env->Hp->Shared->XK->Value->Shared->Prop
structure Env0 (P:Program) (w:World) (K:PySem.W.Frag) (mg:Str->Option Value) (base:Heap) (A:Around) (outer:List Env) (s:Shared) (H:Hp):Prop where
 frames:A.frames=some outer
 mod:Mod K mg base
 bs:∀ b o,base.get? b=some o->s.heap.get? b=some o/\H b=none
 bsz:base.objs.size<=s.heap.objs.size
 funs:s.heap.FunFrames base outer
 frf:∀ b∈frs outer,H b=none
 hok:HOk P w H s.heap
 bare:AllBare s.gens
def CE (outer:List Env) (P:Program) (w:World) (H:Hp) (s:Shared) (Q:VK) (u:Value) (s':Shared):Prop:=
 ∃ v H',s'.os=s.os/\AllBare s'.gens/\Un (frs outer) [] H H' s.heap s'.heap/\HOk P w H' s'.heap/\RelV v u/\Q v H'
def CR (CX:CXT) (outer:List Env) (P:Program) (w:World) (H:Hp) (s:Shared) (Q:VK) (E:XK) (r:Result) (s':Shared):Prop:=
 match r with
 | .ok (.ret u)=>CE outer P w H s Q u s'
 | .ok _=>False
 | .error e=>CX outer H s E e s'
structure FnOk (P:Program) (w:World) (K:PySem.W.Frag) (mg:Str->Option Value) (base:Heap) (CX:CXT) (k:Nat) (f:Addr) (fd:FuncData) (ps:List Str) (sp:Sp):Prop where
 len:∀ vs H Q E,sp vs H Q E->vs.length=ps.length
 run:∀ (A:Around) (outer:List Env) (s:Shared) (H:Hp) (args:Args) (us:List Value) (vs:List V) (Q:VK) (E:XK),Room k A->Env0 P w K mg base A outer s H->BindsTo s fd args (ps.zip us)->Vals vs us->sp vs H Q E->
  codeAny (model P w) A (.call (.ref f) args) (CR CX outer P w H s Q E) s
theorem FnOk.imp {P:Program}{w:World}{K:PySem.W.Frag}{mg:Str->Option Value}{base:Heap}{CX:CXT}{k:Nat}{f:Addr}{fd:FuncData}{ps:List Str}{sp sp':Sp}(F:FnOk P w K mg base CX k f fd ps sp)
  (h:∀ vs H Q E,sp' vs H Q E->sp vs H Q E):FnOk P w K mg base CX k f fd ps sp':=
 ⟨λ vs H Q E q=>F.len vs H Q E (h _ _ _ _ q),λ A outer s H args us vs Q E hr he hb hv hs=>F.run A outer s H args us vs Q E hr he hb hv (h _ _ _ _ hs)⟩
theorem Env0.make {P:Program}{w:World}{K:PySem.W.Frag}{mg:Str->Option Value}{base:Heap}{A:Around}{outer:List Env}{s:Shared}{H:Hp}(e:Env0 P w K mg base A outer s H) (C:Addr) (us:List Value) (kw:List (Str×Value)):
  Env0 P w K mg base (A.under (.builtin "type.__call__" ⟨.ref C::us,kw⟩)) outer s H:=⟨by first | exact e.frames | (simpa [Around.under,Code.envs,Code.isFrame,pushEnvs] using e.frames),e.mod,e.bs,e.bsz,e.funs,e.frf,e.hok,e.bare⟩
section
variable {X:Cx}{pins:List (Addr×Obj)}{σ:St}{H:Hp}{s s':Shared}
theorem Inv.env0 (I:Inv X pins σ H s):Env0 X.prog X.w X.K X.mg X.base X.A X.stack s H:=
 ⟨I.ok.frames,I.ok.mod,I.bs,Nat.le_trans I.ok.bsz I.sz,I.stack,I.stkFree,I.hok,I.bare⟩
theorem Inv.after {Q:VK}{u:Value}(I:Inv X pins σ H s) (h:CE X.stack X.prog X.w H s Q u s'):EP X pins σ Q u s':=by
 obtain⟨v,H',os,bare,un,hok,r,q⟩:=h
 obtain⟨hh,g,d,t,os'⟩:=s'
 obtain rfl:os'=s.os:=os
 exact⟨v,H',I.call (h':=hh) (g':=g) (d':=d) (t':=t) (ch:=[]) un hok bare (λ b z=>absurd z (by simp)),r,q⟩
end
def tCall (sp:Sp) (dvs:List V) (E:XK) (t:TA):TE:=fun σ H Q=>t σ H λ vs H1=>sp (vs++dvs) H1 Q E
def Binds (K:PySem.W.Frag) (fd:FuncData) (ps:List Str) (ds:List Value):Prop:=
 ∀ (s:Shared) (us:List Value),K.In s.heap->(us++ds).length=ps.length->BindsTo s fd ⟨us,[]⟩ (ps.zip (us++ds))
theorem Binds.all {K:PySem.W.Frag}{fd:FuncData}{ps:List Str}(h:∀ us:List Value,us.length=ps.length->bindArgs fd ⟨us,[]⟩=pure (ps.zip us)):Binds K fd ps []:=λ s us _ hl=>by
 rw[List.append_nil] at hl ⊢
 exact .of_eq (h us hl)
def Passes (CX:CXT) (X:Cx) (E:XK):Prop:=∀ (pins:List (Addr×Obj)) (σ:St) (H:Hp) (s:Shared) (e:Value) (s':Shared),Inv X pins σ H s->CX X.stack H s E e s'->X.xe e s'
section
variable {X:Cx}{CX:CXT}{k:Nat}{f C:Addr}{fd:FuncData}{ps:List Str}{sp:Sp}{dvs:List V}{ds:List Value}{E:XK}{x m:Str}{p pos apos:Pos}{e o:Expr}{es:List Expr}{ta:TE}{t:TA}
theorem run_fn {pins:List (Addr×Obj)}{σ:St}{H:Hp}{s:Shared}{Q:VK}{us:List Value}{vs:List V}(F:FnOk X.prog X.w X.K X.mg X.base CX k f fd ps sp) (hr:Room k X.A) (hb:Binds X.K fd ps ds) (hd:Vals dvs ds) (hx:Passes CX X E)
  (I:Inv X pins σ H s) (r:Vals vs us) (h:sp (vs++dvs) H Q E):wpAny (model X.prog X.w) X.A (call (.ref f) us) (EP X pins σ Q) X.xe s:=by
 have r2:Vals (vs++dvs) (us++ds):=r.append hd
 have hl:(us++ds).length=ps.length:=by rw[<- r2.length];exact F.len _ _ _ _ h
 refine wpAny_call (codeAny_mono (F.run X.A X.stack s H ⟨us,[]⟩ (us++ds) (vs++dvs) Q E hr I.env0 (hb s us I.kIn hl) r2 h) λ r s' hq=>?_)
 cases r with
 | error e=>exact hx pins σ H s e s' I hq
 | ok fl=>
  cases fl with
  | ret u=>exact I.after hq
  | next=>exact False.elim hq
  | brk=>exact False.elim hq
  | cont=>exact False.elim hq
theorem pe_call (F:FnOk X.prog X.w X.K X.mg X.base CX k f fd ps sp) (hr:Room k X.A) (hg:Gl X x) (hm:X.mg x=some (.ref f)) (hk:PySem.W.keepIn X.K (.ref f)=true) (hb:Binds X.K fd ps ds) (hd:Vals dvs ds) (hx:Passes CX X E)
  (ha:PA X (e::es) t) (hdb:(x == ("__debug__":Str))=false:=by decide) (he:starEach (e::es) X.env=(false,eval e X.env)::starEach es X.env:=by rfl) (hpl:(backTo pos (starEach es X.env)).any (·.1)=false:=by rfl):
  PE X (.Call (.Name x p) (e::es) [] pos) (tCall sp dvs E t):=by
 intro pins s σ H Q I h
 refine wpAny_Call_Name_kw (ld_glob I hg hm ?_ hdb)
 refine PySem.W.callWith_K (h₀:=X.base) I.ok.mod.kin hk (thn (ha pos pins s σ H _ I h) λ us s1 ⟨vs,H1,I1,r,q⟩=>⟨I1.kIn,?_⟩) he hpl
 exact run_fn F hr hb hd hx I1 r q
end
section
variable {X:Cx}{CX:CXT}{k:Nat}{f C:Addr}{fd:FuncData}{ps ks:List Str}{sp:Sp}{E:XK}{x m:Str}{p pos apos kpos:Pos}{e o:Expr}{es:List Expr}{kws:List Keyword}{te ta:TE}{t tk:TA}{nm:Option Str}
variable {g:List Value->List Value->List Value}{gV:List V->List V->List V}
end
structure FnScope (N P:List Str) (sc:Scope):Prop where
 kind:sc.kind=.function
 co:sc.isCoroutine=false
 gen:sc.isGenerator=false
 nd:N.Nodup
 pre:N.take P.length=P
 par:∀ x∈P,sc.names.lookup x=some .local\/sc.names.lookup x=some .cell
 nofree:∀ y∈sc.names,y.2≠.free
theorem bindL_out {kindOf:Str->Option NameKind}{x:Str}:∀ {binds:List (Str×Value)}{m:Str->Option Value},(∀ v,(x,v)∉binds)->bindL kindOf binds m x=m x
 | [],_,_=>rfl
 | (n,v)::r,m,h=>by
  unfold bindL
  rw[bindL_out λ w hw=>h w (List.mem_cons_of_mem _ hw)]
  split
  ·have:x≠n:=by rintro rfl;exact h v List.mem_cons_self
   simp[this]
  ·rfl
theorem bindC_out {kindOf:Str->Option NameKind}{x:Str}:∀ {binds:List (Str×Value)}{m:Str->Option Value},(∀ v,(x,v)∉binds)->bindC kindOf binds m x=m x
 | [],_,_=>rfl
 | (n,v)::r,m,h=>by
  unfold bindC
  rw[bindC_out λ w hw=>h w (List.mem_cons_of_mem _ hw)]
  split
  ·rfl
  ·have:x≠n:=by rintro rfl;exact h v List.mem_cons_self
   simp[this]
theorem bindL_get {kindOf:Str->Option NameKind}{x:Str}{v:Value}:∀ {P:List Str}{vs:List Value}{i:Nat}{m:Str->Option Value},P.Nodup->P[i]?=some x->vs[i]?=some v->kindOf x=some .local->
  bindL kindOf (P.zip vs) m x=some v
 | [],_,_,_,_,h,_,_=>by simp at h
 | _::_,[],_,_,_,_,h,_=>by simp at h
 | p::P,w::vs,0,m,nd,h1,h2,hk=>by
  simp at h1 h2;subst h1;subst h2
  show bindL kindOf ((p,w)::P.zip vs) m p=_
  unfold bindL
  rw[bindL_out λ v hv=>(List.nodup_cons.mp nd).1 (List.of_mem_zip hv).1,if_pos hk]
  simp
 | p::P,w::vs,i+1,m,nd,h1,h2,hk=>by
  show bindL kindOf ((p,w)::P.zip vs) m x=_
  unfold bindL
  exact bindL_get (i:=i) (List.nodup_cons.mp nd).2 (by simpa using h1) (by simpa using h2) hk
theorem bindC_get {kindOf:Str->Option NameKind}{x:Str}{v:Value}:∀ {P:List Str}{vs:List Value}{i:Nat}{m:Str->Option Value},P.Nodup->P[i]?=some x->vs[i]?=some v->kindOf x≠some .local->
  bindC kindOf (P.zip vs) m x=some v
 | [],_,_,_,_,h,_,_=>by simp at h
 | _::_,[],_,_,_,_,h,_=>by simp at h
 | p::P,w::vs,0,m,nd,h1,h2,hk=>by
  simp at h1 h2;subst h1;subst h2
  show bindC kindOf ((p,w)::P.zip vs) m p=_
  unfold bindC
  rw[bindC_out λ v hv=>(List.nodup_cons.mp nd).1 (List.of_mem_zip hv).1,if_neg hk]
  simp
 | p::P,w::vs,i+1,m,nd,h1,h2,hk=>by
  show bindC kindOf ((p,w)::P.zip vs) m x=_
  unfold bindC
  exact bindC_get (i:=i) (List.nodup_cons.mp nd).2 (by simpa using h1) (by simpa using h2) hk
noncomputable def start (N:List Str) (vs:List V):St:=vs.map some++List.replicate (N.length-vs.length) none
noncomputable def cxOf (CX:CXT) (P:Program) (w:World) (K:PySem.W.Frag) (mg:Str->Option Value) (base:Heap) (N:List Str) (qual:Str) (scope:Scope) (f:Addr) (cd:Value) (A:Around) (outer:List Env) (s:Shared) (H:Hp) (E:XK):Cx where
 prog:=P
 w:=w
 K:=K
 mg:=mg
 base:=base
 A:=A.deeper (envOfC qual scope s.heap.objs.size f cd)
 N:=N
 s₀:=s
 H₀:=H
 env:=envOfC qual scope s.heap.objs.size f cd
 outer:=outer
 stack:=envOfC qual scope s.heap.objs.size f cd::outer
 ex:=[]
 calm:=true
 fn:=λ _=>true
 pn:=[]
 xe:=λ e s'=>wpAny (model P w) (A.deeper (envOfC qual scope s.heap.objs.size f cd)) (leaving (envOfC qual scope s.heap.objs.size f cd) e) (λ _ s''=>CX outer H s E e s'') (λ e' s''=>CX outer H s E e' s'') s'
theorem cell_has {sc:Scope}{n:Nat}{x:Str}(h:sc.names.lookup x=some .cell):∃ c,(cellsFrom n sc.names []).lookup x=some c:=by
 have q:=PySem.W.cellsFrom_some sc.names n [] (.inl h)
 exact Option.isSome_iff_exists.mp q
theorem inv_start {CX:CXT}{P:Program}{w:World}{K:PySem.W.Frag}{mg:Str->Option Value}{base:Heap}{N ps:List Str}{qual:Str}{scope:Scope}{f:Addr}{cd:Value}{A:Around}{outer:List Env}{s s1:Shared}{H:Hp}{E:XK}{us:List Value}{vs:List V}
  (S:FnScope N ps scope) (hd:A.handled=none) (e0:Env0 P w K mg base A outer s H) (hl:vs.length=ps.length) (r:Vals vs us)
  (x:InCallC s s.heap.objs.size (bindL (envOfC qual scope s.heap.objs.size f cd).kindOf (ps.zip us) λ _=>none) (cellsFrom (s.heap.objs.size+1) scope.names []) (bindC (envOfC qual scope s.heap.objs.size f cd).kindOf (ps.zip us) λ _=>none) s1):
  Inv (cxOf CX P w K mg base N qual scope f cd A outer s H E) [] (start N vs) H s1:=by
 have hpl:ps.length<=N.length:=by have:=congrArg List.length S.pre;rw[List.length_take] at this;omega
 obtain⟨h1,tk,rfl,hk⟩:=x.done
 have noA:∀ b:Addr,b∉(cxOf CX P w K mg base N qual scope f cd A outer s H E).ex:=λ b z=>absurd (show b∈([]:List Addr) from z) (by simp)
 refine⟨⟨e0.mod,S.kind,rfl,rfl,Nat.le_refl _,λ y z c h1 h2=>?_,λ y hy=>?_,λ y c _ h=>?_,λ _=>hd,Around.frames_deeper e0.frames,.inr ⟨rfl,rfl⟩,λ b z=>absurd z (noA b),e0.bs,e0.bsz,λ b _ _=>noA b,λ b z=>absurd z (noA b),e0.funs,e0.frf⟩,
  rfl,e0.bare,Un.kept hk,⟨_,x.toInCall.ns,λ i y v h1 h2 h3=>?_⟩,λ y c h=>⟨_,x.cell y c h⟩,e0.hok.fresh (Nat.le_refl _),λ y c h=>?_,λ p hp=>absurd (show p∈([]:List (Addr×Obj)) from hp) (by simp),e0.hok.kept hk,?_⟩
 ·exact name_of_addr x.apart (PySem.mem_of_lookup h1) (PySem.mem_of_lookup h2)
 ·have hy:scope.names.lookup y=some .cell\/scope.names.lookup y=some .free:=hy
  rcases hy with hy | hy
  ·exact cell_has hy
  ·exact absurd rfl (S.nofree _ (PySem.mem_of_lookup hy))
 ·exact Nat.le_of_lt (x.above y c (PySem.mem_of_lookup h))
 ·have hi:i<vs.length:=by
   unfold start at h2
   by_cases hi:i<vs.length
   ·exact hi
   ·rw[List.getElem?_append_right (by simpa using hi)] at h2
    rw[List.getElem?_replicate] at h2
    split at h2 <;> cases h2
  have ha:vs[i]?=some v:=by
   unfold start at h2
   rw[List.getElem?_append_left (by simpa using hi),List.getElem?_map] at h2
   cases e:vs[i]? with
   | none=>rw[e] at h2;cases h2
   | some a=>rw[e] at h2;cases h2;rfl
  obtain⟨u,hu,rv⟩:=r.get ha
  have hp:ps[i]?=some y:=by
   rw[<- S.pre,List.getElem?_take_of_lt (by omega)];exact h1
  have ndP:ps.Nodup:=by rw[<- S.pre];exact S.nd.sublist (List.take_sublist _ _)
  refine⟨u,rv,?_⟩
  rcases S.par y (List.mem_of_getElem? hp) with k | k
  ·exact .inl ⟨k,bindL_get ndP hp hu k⟩
  ·obtain⟨c,e⟩:=cell_has (n:=s.heap.objs.size+1) k
   refine .inr ⟨.inl k,c,e,?_⟩
   have q:=x.cell y c e
   rw[bindC_get ndP hp hu (by show scope.names.lookup y≠_;rw[k];decide)] at q
   exact q
 ·exact e0.hok.fresh (Nat.le_of_lt (x.above y c (PySem.mem_of_lookup h)))
 ·unfold start
  show _=N.length
  rw[List.length_append,List.length_map,List.length_replicate]
  omega
theorem fn_of {CX:CXT}{P:Program}{w:World}{K:PySem.W.Frag}{mg:Str->Option Value}{base:Heap}{k:Nat}{f:Addr}{name qual:Str}{params:Arguments}{body:List Stmt}{scope:Scope}{dV kV doc pm cdv ct oc:Value}{an od:Option Addr}
  {osl:Array (Option Value)}{N ps:List Str}{sp:Sp}(lk:K.lookup f=some ⟨oc,od,.func (PySem.W.fnOf name qual params body scope dV kV doc pm an cdv ct),osl⟩) (hcd:PySem.W.codeIn K cdv qual=true) (S:FnScope N ps scope)
  (len:∀ vs H Q E,sp vs H Q E->vs.length=ps.length)
  (hbody:∀ (A:Around) (outer:List Env) (s:Shared) (H:Hp) (vs:List V) (Q:VK) (E:XK),Room k (A.deeper (envOfC qual scope s.heap.objs.size f cdv))->sp vs H Q E->
   ∃ t,PSs (cxOf CX P w K mg base N qual scope f cdv A outer s H E) body t/\t { nx:=λ _ H'=>Q .non H',rt:=Q } (start N vs) H):
  FnOk P w K mg base CX (k+1) f (PySem.W.fnOf name qual params body scope dV kV doc pm an cdv ct) ps sp:=by
 refine⟨len,λ A outer s H args us vs Q E hr e0 hb r hsp=>?_⟩
 have hl:=len _ _ _ _ hsp
 have KX:K.In s.heap:=e0.mod.kin.keeps λ b o e=>(e0.bs b o e).1
 have lim:s.heap.NoLimit:=e0.mod.nolimit.keeps λ b o e=>(e0.bs b o e).1
 have hkind:∀ y∈ps.zip us,scope.names.lookup y.1=some .local\/(scope.names.lookup y.1=some .cell/\((cellsFrom (s.heap.objs.size+1) scope.names []).lookup y.1).isSome=true):=λ⟨n,v⟩ hy=>by
  rcases S.par n (List.of_mem_zip hy).1 with q | q
  ·exact .inl q
  ·exact .inr ⟨q,PySem.W.cellsFrom_some _ _ _ (.inl q)⟩
 refine codeAny_call_function hr.depth (KX _ _ lk) rfl S.co S.gen rfl (PySem.W.codeRec_of KX hcd) (hb _ _ _ _ ?_)
 refine wpAny_newFunctionEnv_cells S.kind hkind λ env he s1 x=>?_
 subst he
 refine⟨lim.keeps x.toInCall.keep,codeAny_func ?_⟩
 obtain⟨t,ht,hq⟩:=hbody A outer s H vs Q E (hr.deeper _) hsp
 have I:Inv (cxOf CX P w K mg base N qual scope f cdv A outer s H E) [] (start N vs) H s1:=inv_start S hr.hd e0 hl r x
 refine wpAny_mono (ht [] s1 (start N vs) H _ I hq) (λ fl s' hs=>?_) λ e s' hs=>hs
 have fin:∀ {σ':St}{H':Hp}{v:V}{u:Value},Inv (cxOf CX P w K mg base N qual scope f cdv A outer s H E) [] σ' H' s'->RelV v u->Q v H'->CE outer P w H s Q u s':=
  λ{σ' H' v u} J rv q=>⟨v,H',J.os,J.bare,J.base,J.hok,rv,q⟩
 cases fl with
 | ret u=>
  obtain⟨v,σ',H',J,rv,q⟩:=hs
  exact fin J rv q
 | next=>
  obtain⟨σ',H',J,q⟩:=hs
  exact fin (v:=V.non) (u:=Value.none) J rfl q
 | brk=>
  obtain⟨_,_,_,q⟩:=hs
  exact False.elim q
 | cont=>
  obtain⟨_,_,_,q⟩:=hs
  exact False.elim q
end L2
namespace L2
open PySem PySem.Spec PyProof.Rows
section
variable {X:Cx}{x:Str}{p pos:Pos}{e:Expr}{es:List Expr}{t:TA}{id T:String}{r:List V->Hp->VK->Prop}
def tCB (r:List V->Hp->VK->Prop) (t:TA):TE:=fun σ H Q=>t σ H λ vs H1=>r vs H1 Q
theorem pe_callB (hc:CallR X (.builtin id) r) (hg:Gl X x) (hm:X.mg x=none) (hv:bootBuiltins x=some (.builtin id)) (ha:PA X (e::es) t) (hn:x≠"__name__":=by decide) (hdb:(x == ("__debug__":Str))=false:=by decide)
  (he:starEach (e::es) X.env=(false,eval e X.env)::starEach es X.env:=by rfl) (hpl:(backTo pos (starEach es X.env)).any (·.1)=false:=by rfl):PE X (.Call (.Name x p) (e::es) [] pos) (tCB r t):=by
 intro pins s σ H Q I h
 refine wpAny_Call_Name_kw (ld_blt I hg hm hv ?_ hn hdb)
 exact PyProof.Rows.callWith_builtin1 (thn (ha pos pins s σ H _ I h) λ us s1 ⟨vs,H1,I1,r1,q1⟩=>hc pins s1 σ H1 vs us Q I1 r1 q1) he hpl
theorem pe_callTy (hc:CallR X (.type T) r) (hg:Gl X x) (hm:X.mg x=none) (hv:bootBuiltins x=some (.type T)) (ha:PA X (e::es) t) (hn:x≠"__name__":=by decide) (hdb:(x == ("__debug__":Str))=false:=by decide)
  (he:starEach (e::es) X.env=(false,eval e X.env)::starEach es X.env:=by rfl) (hpl:(backTo pos (starEach es X.env)).any (·.1)=false:=by rfl):PE X (.Call (.Name x p) (e::es) [] pos) (tCB r t):=by
 intro pins s σ H Q I h
 refine wpAny_Call_Name_kw (ld_blt I hg hm hv ?_ hn hdb)
 exact PyProof.Rows.callWith_type1 (thn (ha pos pins s σ H _ I h) λ us s1 ⟨vs,H1,I1,r1,q1⟩=>hc pins s1 σ H1 vs us Q I1 r1 q1) he hpl
end
end L2
namespace HT
open PySem PyProof.Rows
noncomputable def lexLt:List Int->List Int->Bool
 | [],[]=>false
 | [],_::_=>true
 | _::_,[]=>false
 | x::xs,y::ys=>if x=y then lexLt xs ys else decide (x<y)
theorem lexLt_cons (x y:Int) (xs ys:List Int):lexLt (x::xs) (y::ys)=if x=y then lexLt xs ys else decide (x<y):=rfl
theorem lexLt_nil_nil:lexLt [] []=false:=rfl
theorem lexLt_nil_cons (y:Int) (ys:List Int):lexLt [] (y::ys)=true:=rfl
theorem lexLt_cons_nil (x:Int) (xs:List Int):lexLt (x::xs) []=false:=rfl
theorem eqAt_int (A:Around) (s:Shared) (a:Int) (t:Tok) (c:Int) (u:Tok):∃ e,SeqAt.EqAt A s (.int a t) (.int c u) e/\(e=true↔a=c):=
 ⟨(a == c),SeqAt.EqAt.int_int a t c u,by simp⟩
theorem rcLt_int (A:Around) (s:Shared) (a:Int) (t:Tok) (c:Int) (u:Tok) (prog:Program) (w:World) (E:Value->Shared->Prop) (Q:Value->Shared->Prop) (h:Q (.bool (decide (a<c))) s):
  wpAny (model prog w) A (richCompare .Lt (.int a t) (.int c u)) Q E s:=
 (PyProof.Rows.lt_int h:wpAny (model prog w) A (compareOp .Lt (.int a t) (.int c u)) Q E s)
section
open PySem.SeqAt
open PySem.AutoSeq1 (wpAny_loadPart')
open PySem.MeetsSeq PySem.MeetsSeq2 PySem.MeetsSeq3
theorem tuple_lt_ints (l b:Addr) (items items2:Array Value) (n n2:Nat) (dd dd2:Option Addr) (sl sl2:Array (Option Value)) (ns ms:List Int) (hi:IntsAre items.toList ns) (hj:IntsAre items2.toList ms):
  Meets (Builtin.«tuple.__lt__» ⟨[.ref l,.ref b],[]⟩)
   (λ _ R s=>s.heap.get? l=some { cls:=.type "tuple",dict:=dd,data:=.seq items n,slots:=sl }/\s.heap.get? b=some { cls:=.type "tuple",dict:=dd2,data:=.seq items2 n2,slots:=sl2 }/\
    R (.ok (.ret (.bool (lexLt ns ms)))) s):=
 .of_wp λ prog w A R s h=>by
  obtain⟨hp,g,d,tk,os⟩:=s;obtain⟨hl,hb,h⟩:=h
  have f2:=AutoSeq1.sub_tuple_tuple
  have z1:items.size=ns.length:=by rw[<- hi.length];simp
  have z2:items2.size=ms.length:=by rw[<- hj.length];simp
  wp_walk using wpAny_loadPart' hl,wpAny_loadPart' hb,wpAny_forIn_list _ (λ rest b s'=>b.1=none/\s'=⟨hp,g,d,tk,os⟩/\∃ (vs ws:List Value) (ns' ms':List Int),rest=vs.zip ws/\
   IntsAre vs ns'/\IntsAre ws ms'/\ns'.length+items2.size=ms'.length+items.size/\R (.ok (.ret (.bool (lexLt ns' ms')))) ⟨hp,g,d,tk,os⟩) _
  case turn=>
   rintro⟨y,x⟩ rest b s' ⟨hb',rfl,vs,ws,ns',ms',hz,hvi,hwi,hlen,hR⟩
   cases hvi with
   | nil=>rw[List.zip_nil_left] at hz;cases hz
   | cons a t hvi'=>
    cases hwi with
    | nil=>rw[List.zip_nil_right] at hz;cases hz
    | cons c u hwi'=>
     rw[List.zip_cons_cons] at hz
     injection hz with hyx hrest
     injection hyx with hy hx
     subst hy hx
     rw[lexLt_cons] at hR
     simp only[List.length_cons] at hlen
     obtain⟨e,he,hiff⟩:=eqAt_int A.in1 ⟨hp,g,d,tk,os⟩ a t c u
     refine wpAny_bind (he prog w _ _ ?_)
     cases e with
     | true=>
      rw[if_pos (hiff.mp rfl)] at hR
      wp_walk
      exact⟨rfl,rfl,_,_,_,_,hrest,hvi',hwi',by omega,hR⟩
     | false=>
      rw[if_neg (λ q=>absurd (hiff.mpr q) Bool.false_ne_true)] at hR
      have hri:=rcLt_int A.in1 ⟨hp,g,d,tk,os⟩ a t c u prog w
      wp_walk using hri
      exact⟨_,rfl,by simpa using hR⟩
  case fin=>
   rintro⟨b1,b2⟩ s' ⟨hb',rfl,vs,ws,ns',ms',hz,hvi,hwi,hlen,hR⟩
   simp only at hb'
   subst hb'
   have hv:lexLt ns' ms'=decide (items.size<items2.size):=by
    cases hvi with
    | nil=>
     cases hwi with
     | nil=>
      simp only[List.length_nil] at hlen
      rw[lexLt_nil_nil]
      exact (decide_eq_false (by omega)).symm
     | cons c u hw=>
      simp only[List.length_nil,List.length_cons] at hlen
      rw[lexLt_nil_cons]
      exact (decide_eq_true (by omega)).symm
    | cons a t hv=>
     cases hwi with
     | nil=>
      simp only[List.length_nil,List.length_cons] at hlen
      rw[lexLt_cons_nil]
      exact (decide_eq_false (by omega)).symm
     | cons c u hw=>
      rw[List.zip_cons_cons] at hz
      cases hz
   rw[hv] at hR
   wp_walk
   exact⟨_,rfl,by simpa [Builtin.Tuple.tupleCompareSizes] using hR⟩
  case h=>
   exact⟨rfl,rfl,items.toList,items2.toList,ns,ms,rfl,hi,hj,by omega,h⟩
end
section
variable {prog:Program}{w:World}{A:Around}{E:Value->Shared->Prop}{s:Shared}
theorem lt_tupInts {l b:Addr}{items items2:Array Value}{ns ms:List Int}{Q:Value->Shared->Prop}(hl:IsTup s.heap l items) (hb:IsTup s.heap b items2) (hi:IntsAre items.toList ns) (hj:IntsAre items2.toList ms)
  (hu:A.units<cLine) (h:Q (.bool (lexLt ns ms)) s):wpAny (model prog w) A (compareOp .Lt (.ref l) (.ref b)) Q E s:=by
 obtain⟨⟨cls,dd,data,sl⟩,ho,hc,n,hd⟩:=id hl
 obtain⟨⟨cls2,dd2,data2,sl2⟩,ho2,hc2,n2,hd2⟩:=id hb
 simp only at hc hd hc2 hd2
 subst hc hd hc2 hd2
 exact richCompare_meets_room (op:=.Lt) ⟨_,ho,rfl⟩ ⟨_,ho2,rfl⟩ PySem.F.slot_tuple_lt PySem.F.entry_tuple_lt (PySem.F.args_tuple_lt_2 _ _) (tuple_lt_ints l b items items2 n n2 dd dd2 sl sl2 ns ms hi hj)
  ⟨ho,ho2,show Value.bool (lexLt ns ms)≠Value.notImplemented/\Q (.bool (lexLt ns ms)) s from ⟨(λ x=>nomatch x),h⟩⟩ hu
theorem cat_tup {t b:Addr}{vs ws:List Value}{Q:Value->Shared->Prop}(ht:IsTup s.heap t vs.toArray) (hb:IsTup s.heap b ws.toArray) (hv:vs≠[])
  (h1:ws=[]->Q (.ref t) s) (h2:ws≠[]->Q (.ref s.heap.objs.size) { s with heap:=s.heap.push { cls:=.type "tuple",data:=.seq (vs++ws).toArray } })
  (hsz:vs.length+ws.length<=sizeLine):wpAny (model prog w) A (binaryOp .Add (.ref t) (.ref b)) Q E s:=by
 obtain⟨⟨cls,dd,data,sl⟩,ho,hc,n,hd⟩:=id ht
 obtain⟨⟨cls2,dd2,data2,sl2⟩,ho2,hc2,n2,hd2⟩:=id hb
 simp only at hc hd hc2 hd2
 subst hc hd hc2 hd2
 have e:vs.toArray++ws.toArray=(vs++ws).toArray:=by simp
 by_cases hw:ws=[]
 ·exact concat_meets ⟨_,ho,rfl⟩ ⟨_,ho2,rfl⟩ noFill_tuple_add seq_tuple_add PySem.F.slot_tuple_add PySem.F.entry_tuple_add (PySem.F.args_tuple_add_2 _ _)
   (tuple_addW1 t b vs.toArray ws.toArray n n2 dd dd2 sl sl2 (by simpa using hv) (by simp[hw])) ⟨ho,ho2,h1 hw⟩
 ·refine concat_meets ⟨_,ho,rfl⟩ ⟨_,ho2,rfl⟩ noFill_tuple_add seq_tuple_add PySem.F.slot_tuple_add PySem.F.entry_tuple_add (PySem.F.args_tuple_add_2 _ _)
   (tuple_addW2 t b vs.toArray ws.toArray n n2 dd dd2 sl sl2 (by simpa using hv) (by simpa using hw) (by rw[List.size_toArray,List.size_toArray];exact hsz)) ⟨ho,ho2,?_⟩
  rw[e]
  exact h2 hw
noncomputable def sIx (n d:Nat):Option Int->Nat
 | none=>d
 | some v=>if v<0 then (v+(n:Int)).toNat else min v.toNat n
theorem sIx_le (n d:Nat) (hd:d<=n) (o:Option Int):sIx n d o<=n:=by
 cases o with
 | none=>exact hd
 | some v=>
  show (if v<0 then (v+(n:Int)).toNat else min v.toNat n)<=n
  by_cases hv:v<0
  ·rw[if_pos hv];omega
  ·rw[if_neg hv];exact Nat.min_le_right _ _
theorem clip_eq (v:Int) (n d:Nat):(if v<0 then max (v+(n:Int)) 0 else min v (n:Int))=((sIx n d (some v):Nat):Int):=by
 show (if v<0 then max (v+(n:Int)) 0 else min v (n:Int))=(((if v<0 then (v+(n:Int)).toNat else min v.toNat n):Nat):Int)
 by_cases hv:v<0
 ·simp only[if_pos hv];omega
 ·simp only[if_neg hv];omega
theorem adjust_gen (lo hi:Option Int) (n:Nat):Builtin.Slice.sliceAdjust lo hi 1 (n:Int)=(((sIx n 0 lo:Nat):Int),((sIx n n hi:Nat):Int)):=by
 have h1:¬ ((1:Int)<0):=by omega
 unfold Builtin.Slice.sliceAdjust
 simp only[h1,if_false]
 refine Prod.ext ?_ ?_
 ·cases lo with
  | none=>rfl
  | some v=>exact clip_eq v n 0
 ·cases hi with
  | none=>rfl
  | some v=>exact clip_eq v n n
theorem places_gen (i j:Nat):Builtin.Slice.slicePlaces (i:Int) (j:Int) 1=j-i:=by
 unfold Builtin.Slice.slicePlaces
 have h1:(1:Int)>0:=by omega
 simp only[h1,if_true,Int.ediv_one]
 split <;> omega
theorem slicePart_ {v:Value}{o:Option Int}{Q:Option Int->Shared->Prop}(p:IsPart v o) (h:Q o s):wpAny (model prog w) A (Builtin.Slice.slicePartIndex v) Q E s:=by
 cases p with
 | none=>exact slicePart_none h
 | int i t=>exact slicePart_int h
theorem sliceApplied_gen {sl:Addr}{vl vu:Value}{lo hi:Option Int}{n:Nat}{Q:Int×Int×Nat->Shared->Prop}(hs:s.heap.IsSliceOf sl vl vu .none) (pl:IsPart vl lo) (pu:IsPart vu hi)
  (h:Q (((sIx n 0 lo:Nat):Int),1,sIx n n hi-sIx n 0 lo) s):wpAny (model prog w) A (Builtin.Slice.sliceApplied (.ref sl) (pure (n:Int))) Q E s:=by
 obtain⟨os,hos,hcs,hds⟩:=id hs
 unfold Builtin.Slice.sliceApplied Builtin.Slice.sliceFields
 refine wpAny_bind (wpAny_bind (wpAny_field hos hds (x:=vl) rfl (wpAny_bind (wpAny_field hos hds (x:=vu) rfl (wpAny_bind (wpAny_field hos hds (x:=.none) rfl (wpAny_pure ?_)))))))
 refine wpAny_bind (slicePart_none ?_)
 show wpAny _ _ (if ((1:Int) == 0)=true then _ else _) _ _ s
 rw[if_neg (by decide)]
 refine wpAny_bind (slicePart_ pl (wpAny_bind (slicePart_ pu (wpAny_bind (wpAny_pure ?_)))))
 show wpAny _ _ (match Builtin.Slice.sliceAdjust lo hi 1 (n:Int) with | (lo,hi)=>pure (lo,(1:Int),Builtin.Slice.slicePlaces lo hi 1)) _ _ s
 rw[adjust_gen lo hi n]
 show wpAny _ _ (pure (((sIx n 0 lo:Nat):Int),(1:Int),Builtin.Slice.slicePlaces ((sIx n 0 lo:Nat):Int) ((sIx n n hi:Nat):Int) 1)) _ _ s
 rw[places_gen]
 exact wpAny_pure h
theorem pick_gen (xs:Array Value) (i k:Nat):((List.range k).filterMap λ(m:Nat)=>xs[((i:Int)+(m:Int)*1).toNat]?).toArray=((xs.toList.drop i).take k).toArray:=by
 have e:(λ(m:Nat)=>xs[((i:Int)+(m:Int)*1).toNat]?)=λ m=>xs[i+m]?:=by
  funext m
  have:((i:Int)+(m:Int)*1).toNat=i+m:=by omega
  rw[this]
 rw[e]
 have:=pick_run xs i k
 rw[List.filterMap_map] at this
 have e2:((λ x=>xs[x]?) ∘ λ x=>i+x)=λ m=>xs[i+m]?:=rfl
 rw[e2] at this
 rw[this]
theorem getItem_tuple_cut {t sl:Addr}{items:Array Value}{vl vu:Value}{lo hi:Option Int}{Q:Value->Shared->Prop}(ht:IsTup s.heap t items) (hs:s.heap.IsSliceOf sl vl vu .none) (pl:IsPart vl lo) (pu:IsPart vu hi)
  (hw:¬ (sIx items.size 0 lo=0/\sIx items.size items.size hi=items.size))
  (h:Q (.ref s.heap.objs.size) { s with heap:=s.heap.push { cls:=.type "tuple",data:=.seq ((items.toList.drop (sIx items.size 0 lo)).take (sIx items.size items.size hi-sIx items.size 0 lo)).toArray } })
  (hsz:items.size<=sizeLine):wpAny (model prog w) A (getItem (.ref t) (.ref sl)) Q E s:=by
 have htake:sizeOk (.seq ((items.toList.drop (sIx items.size 0 lo)).take (sIx items.size items.size hi-sIx items.size 0 lo)).toArray):=by
  show ((items.toList.drop (sIx items.size 0 lo)).take (sIx items.size items.size hi-sIx items.size 0 lo)).toArray.size<=sizeLine
  rw[List.size_toArray,List.length_take,List.length_drop,Array.length_toList]
  omega
 have hj:sIx items.size items.size hi<=items.size:=sIx_le _ _ (Nat.le_refl _) hi
 obtain⟨os,hos,hcs,hds⟩:=id hs
 have hTs:s.TypeIs (.ref sl) "slice":=⟨os,hos,hcs⟩
 unfold getItem
 try with_reducible refine wpAny_holding ?_
 first | refine wpAny_bind (wpAny_pure ?_) | skip
 refine wpAny_bind (wpAny_sequenceKey ht.typeIs (by decide) ?_)
 refine wpAny_bind (wpAny_callSpecial?_slot (name:=Str.ofString "__getitem__") ht.typeIs PyProof.Rows.slot_tuple_getitem
  (wpAny_call_entry PyProof.Rows.slot_tuple_getitem ht.typeIs entry_tuple_getitem ?_ (args_tuple_getitem _ _)))
 show wpAny _ _ (Builtin.Tuple.tupleItemsOf (.ref t) >>= _) _ _ s
 refine wpAny_bind (tupleItemsOf_ ht ?_)
 refine wpAny_bind (wpAny_typeOf hTs ?_)
 rw[if_pos (by decide)]
 refine wpAny_bind (sliceApplied_gen hs pl pu ?_)
 have hno:¬ ((((sIx items.size 0 lo:Nat):Int) == 0&&(1:Int) == 1&&(sIx items.size items.size hi-sIx items.size 0 lo) == items.size)=true):=by
  intro q
  rw[Bool.and_eq_true,Bool.and_eq_true] at q
  have q1:((sIx items.size 0 lo:Nat):Int)=0:=eq_of_beq q.1.1
  have q2:sIx items.size items.size hi-sIx items.size 0 lo=items.size:=eq_of_beq q.2
  exact hw ⟨by omega,by omega⟩
 show wpAny _ _ (if (((sIx items.size 0 lo:Nat):Int) == 0&&(1:Int) == 1&&(sIx items.size items.size hi-sIx items.size 0 lo) == items.size)=true then _ else _) _ _ s
 rw[if_neg hno,pick_gen]
 first
  | exact wpAny_bind (m:=Builtin.Tuple.tupleExact _) (wpAny_newObj_type (wpAny_pure ⟨_,rfl,wpAny_pure h⟩) htake)
  | exact wpAny_bind (m:=Builtin.Tuple.tupleExact _) (wpAny_newObj_type (wpAny_bind (wpAny_pure (wpAny_pure ⟨_,rfl,wpAny_pure h⟩))) htake)
  | exact wpAny_bind (wpAny_bind (m:=Builtin.Tuple.tupleExact _) (wpAny_newObj_type (wpAny_pure (wpAny_pure ⟨_,rfl,wpAny_pure h⟩)) htake))
  | exact wpAny_bind (wpAny_bind (m:=Builtin.Tuple.tupleExact _) (wpAny_newObj_type (wpAny_pure ⟨_,rfl,wpAny_pure h⟩) htake))
end
end HT
namespace L2
open PySem PySem.Spec PyProof.Rows
abbrev TO:=St->Hp->(Option Int->Hp->Prop)->Prop
def PO (X:Cx) (e:Option Expr) (t:TO):Prop:=
 ∀ (pins:List (Addr×Obj)) (s:Shared) (σ:St) (H:Hp) (Q:Option Int->Hp->Prop),Inv X pins σ H s->t σ H Q->
  wpAny (model X.prog X.w) X.A (evalPart e X.env) (λ u s'=>∃ o H',Inv X pins σ H' s'/\IsPart u o/\Q o H') X.xe s
noncomputable def tNoPart:TO:=λ _ H Q=>Q none H
noncomputable def tPart (t:TE):TO:=fun σ H Q=>t σ H λ x H1=>∃ i,x=.int i/\Q (some i) H1
theorem intsAre_of {ns:List Int}:∀ {us:List Value},Vals (ns.map V.int) us->IntsAre us ns:=by
 induction ns with
 | nil=>intro us r;rw[List.map_nil] at r;cases r;exact .nil
 | cons n ns ih=>
  intro us r
  rw[List.map_cons] at r
  cases r with
  | cons r1 r2=>
   obtain⟨t,e⟩:=r1
   subst e
   exact .cons n t (ih r2)
section
variable {X:Cx}{e:Expr}{te:TE}{lo hi:Option Expr}{tl th:TO}{pos p2:Pos}
theorem po_none:PO X none tNoPart:=by
 intro pins s σ H Q I h
 rw[evalPart_none]
 exact wpAny_pure ⟨none,H,I,.none,h⟩
theorem po_some (h:PE X e te):PO X (some e) (tPart te):=by
 intro pins s σ H Q I hw
 rw[evalPart_some]
 refine thn (h pins s σ H _ I hw) λ u s1 ⟨x,H1,I1,r1,q1⟩=>?_
 obtain⟨i,rfl,q⟩:=q1
 obtain⟨t,rfl⟩:=r1
 exact⟨some i,H1,I1,.int i t,q⟩
def SlR (X:Cx) (r:V->Option Int->Option Int->Hp->VK->Prop):Prop:=
 ∀ (pins:List (Addr×Obj)) (s:Shared) (σ:St) (H:Hp) (x:V) (v vl vu:Value) (lo hi:Option Int) (sl:Addr) (Q:VK),Inv X pins σ H s->RelV x v->s.heap.IsSliceOf sl vl vu .none->IsPart vl lo->IsPart vu hi->r x lo hi H Q->
  ∃ T id,typeLookup (.type T) "__getitem__"=pure (some (.builtin id))/\s.TypeIs v T/\wpAny (model X.prog X.w) X.A (getItem v (.ref sl)) (EP X pins σ Q) X.xe s
theorem SlR.or {r r':V->Option Int->Option Int->Hp->VK->Prop}(h:SlR X r) (h':SlR X r'):SlR X (λ x lo hi H Q=>r x lo hi H Q\/r' x lo hi H Q):=by
 intro pins s σ H x v vl vu lo hi sl Q I rx hs pl pu q
 rcases q with q | q
 ·exact h pins s σ H x v vl vu lo hi sl Q I rx hs pl pu q
 ·exact h' pins s σ H x v vl vu lo hi sl Q I rx hs pl pu q
def tSl (r:V->Option Int->Option Int->Hp->VK->Prop) (te:TE) (tl th:TO):TE:=fun σ H Q=>te σ H λ x H1=>tl σ H1 λ l H2=>th σ H2 λ u H3=>r x l u H3 Q
theorem pe_slice {r:V->Option Int->Option Int->Hp->VK->Prop}(hr:SlR X r) (he:PE X e te) (hl:PO X lo tl) (hu:PO X hi th):PE X (.Subscript e (.Slice lo hi none p2) pos) (tSl r te tl th):=by
 intro pins s σ H Q I h
 refine Subscript_ (thn (he pins s σ H _ I h) λ v s1 ⟨x,H1,I1,r1,q1⟩=>?_)
 refine wpAny_Slice (thn (hl pins s1 σ H1 _ I1 q1) λ vl s2 ⟨l,H2,I2,pl,q2⟩=>thn (hu pins s2 σ H2 _ I2 q2) λ vu s3 ⟨u,H3,I3,pu,q3⟩=>?_)
 rw[evalPart_none]
 refine wpAny_pure ?_
 have I4:Inv X pins σ H3 { s3 with heap:=s3.heap.push { cls:=.type "slice",data:=.fields #[vl,vu,.none] } }:=I3.kept (t':=s3.toks) λ b ob q=>Heap.get?_push_of_some _ q
 obtain⟨T,id,hT,ht,hg⟩:=hr pins { s3 with heap:=s3.heap.push { cls:=.type "slice",data:=.fields #[vl,vu,.none] } } σ H3 x v vl vu l u s3.heap.objs.size Q I4 r1 (Heap.IsSliceOf.new ..) pl pu q3
 show wpAny (model X.prog X.w) X.A (subscriptTail e (.Slice lo hi none p2) v (.ref s3.heap.objs.size)) (EP X pins σ Q) X.xe { s3 with heap:=s3.heap.push { cls:=.type "slice",data:=.fields #[vl,vu,.none] } }
 exact tail_any (ops:=[.ref s3.heap.objs.size,v]) ht hT hg (by with_unfolding_all rfl)
noncomputable def cutV (xs:List V) (lo hi:Option Int):List V:=(xs.drop (HT.sIx xs.length 0 lo)).take (HT.sIx xs.length xs.length hi-HT.sIx xs.length 0 lo)
theorem cutV_length (xs:List V) (lo hi:Option Int):(cutV xs lo hi).length<=xs.length:=by
 unfold cutV
 rw[List.length_take,List.length_drop]
 omega
def rSlT (K:PySem.W.Frag):V->Option Int->Option Int->Hp->VK->Prop:=λ x lo hi H Q=>∃ a xs,x=.ref a/\SqT K H a xs/\
 ¬ (HT.sIx xs.length 0 lo=0/\HT.sIx xs.length xs.length hi=xs.length)/\∀ p,H p=none->Q (.ref p) (upd H p (.tup (cutV xs lo hi)))
theorem sl_tup:SlR X (rSlT X.K):=by
 intro pins s σ H x v vl vu lo hi sl Q I rx hs pl pu h
 obtain⟨a,xs,rfl,hx,hw,q⟩:=h
 cases rx
 obtain⟨its,r,ht,hz⟩:=I.tuple hx
 have hlen:its.toArray.size=xs.length:=by rw[List.size_toArray];exact r.length.symm
 refine⟨"tuple",_,PyProof.Rows.slot_tuple_getitem.lookup,ht.typeIs,?_⟩
 refine HT.getItem_tuple_cut ht hs pl pu (by rw[hlen];exact hw) ?_ (by rw[hlen];exact hz)
 rw[hlen]
 refine⟨.ref s.heap.objs.size,_,I.laid (t':=s.toks) (o:=.tup (cutV xs lo hi)) (λ b ob q=>Heap.get?_push_of_some _ q) (Nat.le_refl _) ?_,rfl,q _ (I.hok.fresh (Nat.le_refl _))⟩
 exact⟨Nat.le_trans (cutV_length xs lo hi) hz,_,(r.drop (HT.sIx xs.length 0 lo)).take (HT.sIx xs.length xs.length hi-HT.sIx xs.length 0 lo),IsTup.new _ _⟩
def rLtT (K:PySem.W.Frag):R2:=λ x y H Q=>∃ a b ns ms,x=.ref a/\y=.ref b/\SqT K H a (ns.map V.int)/\SqT K H b (ms.map V.int)/\Q (.bl (HT.lexLt ns ms)) H
theorem op_ltT (hu:X.A.units<cLine):OpR X (compareOp .Lt) (rLtT X.K):=by
 intro pins s σ H x y v u Q I rx ry h
 obtain⟨a,b,ns,ms,rfl,rfl,ha,hb,q⟩:=h
 cases rx
 cases ry
 obtain⟨its,r1,p1,_⟩:=I.tuple ha
 obtain⟨its2,r2,p2,_⟩:=I.tuple hb
 have i1:IntsAre its.toArray.toList ns:=intsAre_of r1
 have i2:IntsAre its2.toArray.toList ms:=intsAre_of r2
 exact HT.lt_tupInts p1 p2 i1 i2 hu ⟨.bl (HT.lexLt ns ms),H,I,rfl,q⟩
def rCatT (K:PySem.W.Frag):R2:=λ x y H Q=>∃ a b xs ys,x=.ref a/\y=.ref b/\SqT K H a xs/\SqT K H b ys/\xs≠[]/\xs.length+ys.length<=sizeLine/\
 (ys=[]->Q (.ref a) H)/\(ys≠[]->∀ p,H p=none->Q (.ref p) (upd H p (.tup (xs++ys))))
theorem Vals.nil_iff {xs:List V}{us:List Value}(r:Vals xs us):us=[]↔xs=[]:=by
 cases r with
 | nil=>simp
 | cons _ _=>simp
theorem op_catT:OpR X (binaryOp .Add) (rCatT X.K):=by
 intro pins s σ H x y v u Q I rx ry h
 obtain⟨a,b,xs,ys,rfl,rfl,ha,hb,hx,hz,q1,q2⟩:=h
 cases rx
 cases ry
 obtain⟨its,r1,p1,_⟩:=I.tuple ha
 obtain⟨its2,r2,p2,_⟩:=I.tuple hb
 refine HT.cat_tup p1 p2 (λ z=>hx (r1.nil_iff.mp z)) (λ z=>⟨.ref a,H,I,rfl,q1 (r2.nil_iff.mp z)⟩) (λ z=>?_) (by rw[<- r1.length,<- r2.length];exact hz)
 refine⟨.ref s.heap.objs.size,_,I.laid (t':=s.toks) (o:=.tup (xs++ys)) (λ b ob q=>Heap.get?_push_of_some _ q) (Nat.le_refl _) ?_,rfl,q2 (λ w=>z (r2.nil_iff.mpr w)) _ (I.hok.fresh (Nat.le_refl _))⟩
 exact⟨by rw[List.length_append];exact hz,_,r1.append r2,IsTup.new _ _⟩
end
end L2
namespace L2
open PySem PySem.Spec PyProof.Rows
noncomputable def ixN (n:Nat) (i:Int):Option Nat:=if 0<=i then (if i<n then some i.toNat else none) else if -(n:Int)<=i then some (i+n).toNat else none
noncomputable def atI {α:Type}(xs:List α) (i:Int):Option α:=(ixN xs.length i).bind λ j=>xs[j]?
theorem ixN_seq {n:Nat}{i:Int}{j:Nat}(h:ixN n i=some j):seqIndex? i n=some j/\j<n/\-(n:Int)<=i/\i<n:=by
 unfold ixN at h
 by_cases h0:0<=i
 ·rw[if_pos h0] at h
  by_cases h1:i<n
  ·rw[if_pos h1] at h
   have e:i.toNat=j:=Option.some.inj h
   exact⟨by rw[seqIndex_of h0 h1,e],by omega,by omega,h1⟩
  ·rw[if_neg h1] at h;cases h
 ·rw[if_neg h0] at h
  by_cases h1:-(n:Int)<=i
  ·rw[if_pos h1] at h
   have e:(i+n).toNat=j:=Option.some.inj h
   exact⟨by rw[seqIndex_neg (by omega) h1,e],by omega,h1,by omega⟩
  ·rw[if_neg h1] at h;cases h
theorem atI_get {α:Type}{xs:List α}{i:Int}{v:α}(h:atI xs i=some v):∃ j,seqIndex? i xs.length=some j/\xs[j]?=some v/\j<xs.length/\-(xs.length:Int)<=i/\i<xs.length:=by
 unfold atI at h
 cases e:ixN xs.length i with
 | none=>rw[e] at h;cases h
 | some j=>
  rw[e] at h
  obtain⟨h1,h2,h3,h4⟩:=ixN_seq e
  exact⟨j,h1,h,h2,h3,h4⟩
theorem atI_last {α:Type}(xs:List α) (v:α):atI (xs++[v]) (-1)=some v:=by
 have hl:(xs++[v]).length=xs.length+1:=by simp
 have e:ixN (xs++[v]).length (-1)=some xs.length:=by
  unfold ixN
  rw[hl,if_neg (by decide),if_pos (by omega)]
  congr 1
  omega
 unfold atI
 rw[e]
 show (xs++[v])[xs.length]?=some v
 simp
def PlainIx (b:Expr):Prop:=∀ o i,subscripted b false o i=operate [o,i] (getItem o i)
def IxR (X:Cx) (r:R2):Prop:=
 ∀ (value slice:Expr) (pins:List (Addr×Obj)) (s:Shared) (σ:St) (H:Hp) (x y:V) (v u:Value) (Q:VK),Inv X pins σ H s->RelV x v->RelV y u->r x y H Q->
  subscripted slice false v u=operate [v,u] (getItem v u)->wpAny (model X.prog X.w) X.A (subscriptTail value slice v u) (EP X pins σ Q) X.xe s
def MtR (X:Cx) (id:String) (r:V->List V->Hp->VK->Prop):Prop:=
 ∀ (pins:List (Addr×Obj)) (s:Shared) (σ:St) (H:Hp) (x:V) (xs:List V) (v:Value) (us:List Value) (Q:VK),Inv X pins σ H s->RelV x v->Vals xs us->r x xs H Q->
  wpAny (model X.prog X.w) X.A (call (.builtin id) (v::us)) (EP X pins σ Q) X.xe s
section
variable {X:Cx}{a b:Expr}{ta tb:TE}{pos:Pos}
theorem IxR.or {r r':R2}(h:IxR X r) (h':IxR X r'):IxR X (λ x y H Q=>r x y H Q\/r' x y H Q):=by
 intro value slice pins s σ H x y v u Q I rx ry q hs
 rcases q with q | q
 ·exact h value slice pins s σ H x y v u Q I rx ry q hs
 ·exact h' value slice pins s σ H x y v u Q I rx ry q hs
theorem pe_ix {r:R2}(hr:IxR X r) (ha:PE X a ta) (hb:PE X b tb) (hs:PlainIx b):PE X (.Subscript a b pos) (tOp r ta tb):=by
 intro pins s σ H Q I h
 exact Subscript_ (binT ha hb I h λ v u s2 x y H2 I2 rx ry q=>hr a b pins s2 σ H2 x y v u Q I2 rx ry q (hs _ _))
def rIxL (K:PySem.W.Frag):R2:=λ x y H Q=>∃ p xs i v,x=.ref p/\y=.int i/\SqL K H p xs/\atI xs i=some v/\Q v H
def rIxT (K:PySem.W.Frag):R2:=λ x y H Q=>∃ p xs i v,x=.ref p/\y=.int i/\SqT K H p xs/\atI xs i=some v/\Q v H
def rIxS:R2:=λ x y H Q=>∃ z i c,x=.str z/\y=.int i/\z.length<=sizeLine/\atI z.cps.toList i=some c/\Q (.str ⟨#[c]⟩) H
theorem ix_list:IxR X (rIxL X.K):=by
 intro value slice pins s σ H x y v u Q I rx ry h hs
 obtain⟨p,xs,i,z,rfl,rfl,hq,he,q⟩:=h
 cases rx
 obtain⟨t,rfl⟩:=ry
 obtain⟨its,r,pl,hz⟩:=I.list hq
 obtain⟨j,h1,h2,h3,h4,h5⟩:=atI_get he
 obtain⟨w,ew,rw'⟩:=r.get h2
 have hl:=r.length
 have hn:=line63
 have fin:EP X pins σ Q w s:=⟨z,H,I,rw',q⟩
 by_cases h0:0<=i
 ·have hj:i.toNat=j:=by
   rw[seqIndex_of h0 h5] at h1
   exact Option.some.inj h1
  exact item_listR pl.isList h0 (by omega) (by rw[hj];simpa using ew) fin hs
 ·have hj:(i+(its.toArray.size:Int)).toNat=j:=by
   rw[seqIndex_neg (by omega) h4] at h1
   rw[List.size_toArray,<- hl]
   exact Option.some.inj h1
  exact subscriptTail_builtinR (x:=w) pl.isList.typeIs slot_list_getitem.lookup
   (wpAny_getItem_list_neg (Q:=λ r s'=>r=w/\EP X pins σ Q r s') pl.isList (by omega) (by rw[List.size_toArray] <;> omega) (by omega) (by rw[hj];simpa using ew) ⟨rfl,fin⟩) hs
theorem ix_tup:IxR X (rIxT X.K):=by
 intro value slice pins s σ H x y v u Q I rx ry h hs
 obtain⟨p,xs,i,z,rfl,rfl,hq,he,q⟩:=h
 cases rx
 obtain⟨t,rfl⟩:=ry
 obtain⟨its,r,pl,hz⟩:=I.tuple hq
 obtain⟨j,h1,h2,h3,h4,h5⟩:=atI_get he
 obtain⟨w,ew,rw'⟩:=r.get h2
 have hl:=r.length
 have hn:=line63
 have fin:EP X pins σ Q w s:=⟨z,H,I,rw',q⟩
 exact subscriptTail_builtinR (x:=w) pl.typeIs slot_tuple_getitem.lookup
  (getItem_tuple (j:=j) (Q:=λ r s'=>r=w/\EP X pins σ Q r s') pl (by omega) (by omega) (by rw[List.size_toArray,<- hl];exact h1) (by simpa using ew) ⟨rfl,fin⟩) hs
theorem ix_str:IxR X rIxS:=by
 intro value slice pins s σ H x y v u Q I rx ry h hs
 obtain⟨z,i,c,rfl,rfl,hz,he,q⟩:=h
 obtain⟨t,rfl⟩:=rx
 obtain⟨t',rfl⟩:=ry
 obtain⟨j,h1,h2,h3,h4,h5⟩:=atI_get he
 have hl:z.cps.toList.length=z.length:=by simp[Str.length]
 rw[hl] at h1 h4 h5
 have hn:=line63
 exact tail_any (typeIs_str s z t) slot_str_getitem.lookup (getItem_str (c:=c) (by
  have e1:decide (i < -(2 ^ 63:Int))=false:=decide_eq_false (by omega)
  have e2:decide (i≥2 ^ 63)=false:=decide_eq_false (by omega)
  rw[e1,e2,Bool.or_false]) (by rw[h1];simpa using h2) ⟨.str ⟨#[c]⟩,H,I.tok _,⟨_,rfl⟩,q⟩) hs
def rIx (K:PySem.W.Frag):R2:=λ x y H Q=>rIxL K x y H Q\/rIxT K x y H Q\/rIxS x y H Q
theorem ix_seq:IxR X (rIx X.K):=ix_list.or (ix_tup.or ix_str)
theorem mapSeq_set (its:List Value) (n j:Nat) (u:Value):Obj.mapSeq (·.setIfInBounds j u) { cls:=.type "list",data:=.seq its.toArray n }={ cls:=.type "list",data:=.seq (its.set j u).toArray n }:=by
 simp[Obj.mapSeq]
theorem Inv.lst {pins:List (Addr×Obj)}{σ:St}{H:Hp}{s:Shared}{p:Addr}{xs:List V}(I:Inv X pins σ H s) (h:H p=some (.lst xs)):
  ∃ (its:List Value) (n:Nat),Vals xs its/\s.heap.get? p=some { cls:=.type "list",data:=.seq its.toArray n }/\xs.length<=sizeLine:=by
 obtain⟨z,its,n,r,e⟩:=I.hok p _ h
 exact⟨its,n,r,e,z⟩
theorem Inv.lstUpd {pins:List (Addr×Obj)}{σ:St}{H:Hp}{s:Shared}{p:Addr}{xs ys:List V}{its its':List Value}{n n':Nat}{f:Obj->Obj}(I:Inv X pins σ H s) (h:H p=some (.lst xs))
  (ho:s.heap.get? p=some { cls:=.type "list",data:=.seq its.toArray n }) (hf:f { cls:=.type "list",data:=.seq its.toArray n }={ cls:=.type "list",data:=.seq its'.toArray n' }) (r:Vals ys its') (hz:ys.length<=sizeLine) (t:Nat):
  Inv X pins σ (upd H p (.lst ys)) { s with heap:=s.heap.update p f,toks:=t }:=by
 have e:(s.heap.update p f).get? p=some { cls:=.type "list",data:=.seq its'.toArray n' }:=by
  rw[Heap.get?_update_self f ho (by rw[hf] <;> rfl),hf]
 refine I.write (x:=p) (e:=p) (by rw[h];trivial) (.inl rfl) (λ b u hb q=>(Heap.get?_update_other _ _ (Ne.symm hb)).trans q) ⟨_,e⟩ ?_
 exact⟨hz,its',n',r,e⟩
def rSetL:V->V->V->Hp->(Hp->Prop)->Prop:=λ o i v H Q=>∃ p xs k j,o=.ref p/\i=.int k/\H p=some (.lst xs)/\ixN xs.length k=some j/\Q (upd H p (.lst (xs.set j v)))
theorem set_list:PSet X rSetL:=by
 intro pins s σ H o i v ov iv u Q I ro ri rv h
 obtain⟨p,xs,k,j,rfl,rfl,hp,hj,q⟩:=h
 cases ro
 obtain⟨t,rfl⟩:=ri
 obtain⟨its,n,r,ho,hz⟩:=I.lst hp
 obtain⟨h1,h2,h3,h4⟩:=ixN_seq hj
 have hl:=r.length
 have hn:=line63
 have I':Inv X pins σ (upd H p (.lst (xs.set j v))) { s with heap:=s.heap.update p (Obj.mapSeq (·.setIfInBounds j u)) }:=
  I.lstUpd hp ho (mapSeq_set its n j u) (r.set rv j) (by rw[List.length_set];exact hz) s.toks
 by_cases h0:0<=k
 ·have hk:k.toNat=j:=by
   rw[seqIndex_of h0 h4] at h1
   exact Option.some.inj h1
  exact PySem.W.ki_setAt ho h0 (by omega) (by rw[List.size_toArray,<- hl];exact h4) (by rw[hk];exact⟨_,I',q⟩)
 ·have hk:(k+(its.toArray.size:Int)).toNat=j:=by
   rw[seqIndex_neg (by omega) h3] at h1
   rw[List.size_toArray,<- hl]
   exact Option.some.inj h1
  exact PySem.W.ki_setBack ho (by omega) (by rw[List.size_toArray,<- hl];exact h3) (by omega) (by rw[hk];exact⟨_,I',q⟩)
theorem slice_bounds (lo hi:Option Int) (n:Nat):(sliceBounds lo hi none n).1=((HT.sIx n 0 lo:Nat):Int)/\(sliceBounds lo hi none n).2.1=((HT.sIx n n hi:Nat):Int)/\(sliceBounds lo hi none n).2.2=1:=by
 refine⟨?_,?_,rfl⟩
 ·cases lo with
  | none=>simp[sliceBounds,HT.sIx]
  | some i=>
   simp only[sliceBounds,HT.sIx,Option.getD_none,show (1:Int)>0 by decide,if_true]
   by_cases h:i<0
   ·simp only[h,if_true] <;> omega
   ·simp only[h,if_false] <;> omega
 ·cases hi with
  | none=>simp[sliceBounds,HT.sIx]
  | some i=>
   simp only[sliceBounds,HT.sIx,Option.getD_none,show (1:Int)>0 by decide,if_true]
   by_cases h:i<0
   ·simp only[h,if_true] <;> omega
   ·simp only[h,if_false] <;> omega
theorem slicePick_cut (its:List Value) (lo hi:Option Int):slicePick its.toArray lo hi none=((its.drop (HT.sIx its.length 0 lo)).take (HT.sIx its.length its.length hi-HT.sIx its.length 0 lo)).toArray:=by
 obtain⟨h1,h2,h3⟩:=slice_bounds lo hi its.toArray.size
 unfold slicePick
 rw[h1,h2,h3]
 simp only[sliceRange_one,pick_run,List.size_toArray] <;> rfl
def rSlL (K:PySem.W.Frag):V->Option Int->Option Int->Hp->VK->Prop:=λ x lo hi H Q=>∃ a xs,x=.ref a/\SqL K H a xs/\∀ p,H p=none->Q (.ref p) (upd H p (.lst (cutV xs lo hi)))
theorem sl_list:SlR X (rSlL X.K):=by
 intro pins s σ H x v vl vu lo hi sl Q I rx hs pl pu h
 obtain⟨a,xs,rfl,hx,q⟩:=h
 cases rx
 obtain⟨its,r,ht,hz⟩:=I.list hx
 have hlen:=r.length
 refine⟨"list",_,slot_list_getitem.lookup,ht.isList.typeIs,?_⟩
 refine wpAny_getItem_list_slice ht.isList hs pl pu .none (by simp) ?_ (by rw[List.size_toArray] <;> omega)
 rw[slicePick_cut,<- hlen]
 refine⟨.ref s.heap.objs.size,_,I.laid (t':=s.toks) (o:=.lst (cutV xs lo hi)) (λ b ob q=>Heap.get?_push_of_some _ q) (Nat.le_refl _) ?_,rfl,q _ (I.hok.fresh (Nat.le_refl _))⟩
 exact⟨Nat.le_trans (cutV_length xs lo hi) hz,_,0,(r.drop (HT.sIx xs.length 0 lo)).take (HT.sIx xs.length xs.length hi-HT.sIx xs.length 0 lo),Heap.get?_push_size _ rfl⟩
theorem call_len_seq:CallR X (.builtin "len") (λ xs H Q=>∃ p ys,xs=[.ref p]/\(SqL X.K H p ys\/SqT X.K H p ys)/\Q (.int ys.length) H):=by
 intro pins s σ H xs us Q I r h
 obtain⟨p,ys,rfl,hq,q⟩:=h
 obtain⟨u,rfl,rx⟩:=vals1 r
 cases rx
 have hn:=line63
 rcases hq with hq | hq
 ·obtain⟨its,r',pl,hz⟩:=I.list hq
  have hlen:=r'.length
  exact Calls.call_len_list pl.isList (by simp only[List.size_toArray] <;> omega) ⟨.int ys.length,H,I.tok _,⟨s.toks+1,by rw[List.size_toArray,hlen]⟩,q⟩
 ·obtain⟨its,r',pl,hz⟩:=I.tuple hq
  have hlen:=r'.length
  exact len_tuple pl (by simp only[List.size_toArray] <;> omega) ⟨.int ys.length,H,I.tok _,⟨s.toks+1,by rw[List.size_toArray,hlen]⟩,q⟩
theorem call_len_str:CallR X (.builtin "len") (λ xs H Q=>∃ z,xs=[.str z]/\z.length<=sizeLine/\Q (.int z.length) H):=by
 intro pins s σ H xs us Q I r h
 obtain⟨z,rfl,hz,q⟩:=h
 obtain⟨u,rfl,t,rfl⟩:=vals1 r
 have hn:=line63
 exact len_str (by omega) ⟨.int z.length,H,I.tok _,⟨_,rfl⟩,q⟩
theorem CallR.or {f:Value}{r r':List V->Hp->VK->Prop}(h:CallR X f r) (h':CallR X f r'):CallR X f (λ xs H Q=>r xs H Q\/r' xs H Q):=by
 intro pins s σ H xs us Q I rs q
 rcases q with q | q
 ·exact h pins s σ H xs us Q I rs q
 ·exact h' pins s σ H xs us Q I rs q
theorem call_tuple_of:CallR X (.type "tuple") (λ xs H Q=>∃ p ys,xs=[.ref p]/\((SqL X.K H p ys/\∀ l,H l=none->Q (.ref l) (upd H l (.tup ys)))\/(SqT X.K H p ys/\Q (.ref p) H))):=by
 intro pins s σ H xs us Q I r h
 obtain⟨p,ys,rfl,h⟩:=h
 obtain⟨u,rfl,rx⟩:=vals1 r
 cases rx
 rcases h with ⟨hq,q⟩ | ⟨hq,q⟩
 ·obtain⟨its,r',pl,hz⟩:=I.list hq
  have hlen:=r'.length
  refine call_tuple_list pl.isList (λ h' kp=>?_) (by simp only[List.size_toArray] <;> omega)
  have I1:Inv X pins σ H { s with heap:=h' }:=I.kept (t':=s.toks) kp
  have I2:Inv X pins σ (upd H h'.objs.size (.tup ys)) { s with heap:=h'.push { cls:=.type "tuple",data:=.seq its.toArray } }:=
   I1.laid (t':=s.toks) (λ b o e=>Heap.get?_push_of_some _ e) (Nat.le_refl _) (show ObjOk X.prog X.w _ _ _ (.tup ys) from ⟨hz,its,r',IsTup.new _ _⟩)
  exact⟨.ref h'.objs.size,_,I2,rfl,q _ (I1.hok.fresh (Nat.le_refl _))⟩
 ·obtain⟨its,r',pl,hz⟩:=I.tuple hq
  exact call_tuple_same pl ⟨.ref p,H,I,rfl,q⟩
def tyV (K:PySem.W.Frag) (T:String) (x:V) (H:Hp):Prop:=match x with
 | .str _=>T="str"
 | .int _=>T="int"
 | .ref p=>(T="list"/\∃ xs,SqL K H p xs)\/(T="tuple"/\∃ o,K.lookup p=some o/\o.cls=.type "tuple"/\o.dict=none)\/
   (T="dict"/\((∃ kvs,H p=some (.dK kvs))\/∃ kvs,H p=some (.dT kvs)))\/(T="set"/\∃ S n,H p=some (.set S n))
 | _=>False
theorem tyV_is {pins:List (Addr×Obj)}{σ:St}{H:Hp}{s:Shared}{T:String}{x:V}{v:Value}(I:Inv X pins σ H s) (r:RelV x v) (ty:tyV X.K T x H):
  s.TypeIs v T/\∀ a,v=.ref a->∃ ob,s.heap.get? a=some ob/\ob.dict=none:=by
 cases x with
 | str z=>
  obtain⟨t,rfl⟩:=r
  cases (show T="str" from ty)
  exact⟨typeIs_str s z t,λ _ e=>nomatch e⟩
 | int i=>
  obtain⟨t,rfl⟩:=r
  cases (show T="int" from ty)
  exact⟨typeIs_int s i t,λ _ e=>nomatch e⟩
 | ref p=>
  cases r
  rcases ty with ⟨rfl,xs,hq⟩ | ⟨rfl,o,hk,hc,hd⟩ | ⟨rfl,hk⟩ | ⟨rfl,S,n,hk⟩
  ·obtain⟨its,_,pl,_⟩:=I.list hq
   refine⟨pl.isList.typeIs,λ a e=>?_⟩
   cases e
   obtain⟨o,n,e,c,hd,_⟩:=pl
   exact⟨o,e,hd⟩
  ·refine⟨⟨o,I.kIn p o hk,hc⟩,λ a e=>?_⟩
   cases e
   exact⟨o,I.kIn _ o hk,hd⟩
  ·have z:∃ o,s.heap.get? p=some o/\o.ExactDict:=by
    rcases hk with ⟨kvs,hk⟩ | ⟨kvs,hk⟩
    ·obtain⟨_,_,_,_,o,_,_,e,ex,_⟩:=I.hok p _ hk
     exact⟨o,e,ex⟩
    ·obtain⟨_,_,_,_,o,_,_,e,ex,_⟩:=I.hok p _ hk
     exact⟨o,e,ex⟩
   obtain⟨o,e,ex⟩:=z
   refine⟨⟨o,e,ex.1⟩,λ a e2=>?_⟩
   cases e2
   exact⟨o,e,ex.2.1⟩
  ·obtain⟨o,_,_,_,e,ex,_⟩:=I.hok p _ hk
   refine⟨⟨o,e,ex.1⟩,λ a e2=>?_⟩
   cases e2
   exact⟨o,e,ex.2.1⟩
 | _=>exact False.elim ty
def tBM (K:PySem.W.Frag) (T:String) (r:V->List V->Hp->VK->Prop) (to:TE) (t:TA):TE:=fun σ H Q=>to σ H λ x H1=>tyV K T x H1/\t σ H1 λ xs H2=>r x xs H2 Q
variable {o e:Expr}{es:List Expr}{to:TE}{t:TA}{name:Str}{apos cpos:Pos}{T id:String}{r:V->List V->Hp->VK->Prop}
theorem pe_bm (pa:PlainAttrs T) (slot:Slot T name id) (hty:typeOf (.builtin id)=pure (.type "method_descriptor")) (hm:MtR X id r) (ho:PE X o to) (ha:PA X (e::es) t)
  (hbase:attributeBase o name X.env (eval o X.env)=eval o X.env:=by rfl)
  (hfew:((backTo cpos (starEach (e::es) X.env)).all (λ x=>!x.1)&&(backToKw cpos (keywordEach [] X.env)).all (λ x=>x.1.isSome)
   && decide ((e::es).length+([]:List Keyword).length+(if ([]:List Keyword).isEmpty then 0 else 1)<30))=true:=by rfl)
  (hline:(apos.endLine == cpos.line)=true:=by rfl) (hs:starEach (e::es) X.env=(false,eval e X.env)::starEach es X.env:=by rfl) (hplain:(backTo cpos (starEach es X.env)).any (·.1)=false:=by rfl):
  PE X (.Call (.Attribute o name apos) (e::es) [] cpos) (tBM X.K T r to t):=by
 intro pins s σ H Q I h
 refine wpAny_Call_method_late hbase hfew hline rfl (thn (ho pins s σ H _ I h) λ v s1 ⟨x,H1,I1,r1,ty,q1⟩=>?_)
 obtain⟨h1,h2⟩:=tyV_is I1 r1 ty
 refine⟨T,id,pa,slot,hty,h1,h2,?_⟩
 have hA:=ha cpos pins s1 σ H1 _ I1 q1
 rw[hs] at hA ⊢
 refine Calls.callWith_builtin (by show (false||(backTo cpos (starEach es X.env)).any (·.1))=false;rw[hplain] <;> rfl) (Calls.evalArgs_plain ?_)
 exact thn hA λ us s2 ⟨vs,H2,I2,r2,q2⟩=>hm pins s2 σ H2 x vs v us Q I2 r1 r2 q2
end
end L2
namespace L2
open PySem PySem.Spec PyProof.Rows
def MtM (X:Cx) (id:String) (r:V->List V->Hp->VK->Prop):Prop:=
 ∀ (pins:List (Addr×Obj)) (s:Shared) (σ:St) (H:Hp) (x:V) (xs:List V) (v:Value) (us:List Value) (Q:VK),Inv X pins σ H s->RelV x v->Vals xs us->r x xs H Q->
  wpAny (model X.prog X.w) X.A (call (.builtin id) (v::us)) (EP X pins σ Q) X.xe s
theorem Vals.one:∀ {x:V}{us:List Value},Vals [x] us->∃ u,us=[u]/\RelV x u
 | _,_,.cons r .nil=>⟨_,rfl,r⟩
theorem Vals.rep {xs:List V}{us:List Value}(h:Vals xs us):∀ k:Nat,Vals (List.replicate k xs).flatten (List.replicate k us).flatten
 | 0=>.nil
 | k+1=>by
  rw[List.replicate_succ,List.replicate_succ,List.flatten_cons,List.flatten_cons]
  exact Vals.append h (Vals.rep h k)
section
variable {X:Cx}{pins:List (Addr×Obj)}{σ:St}{H:Hp}{s:Shared}{l b:Addr}{xs ys zs:List V}
theorem Inv.lset {its its':List Value}{n:Nat}{f:Array Value->Array Value}{t':Nat}(I:Inv X pins σ H s) (hH:H l=some (.lst xs))
  (e:s.heap.get? l=some { cls:=.type "list",data:=.seq its.toArray n }) (hf:f its.toArray=its'.toArray) (hv:Vals ys its') (hz:ys.length<=sizeLine):
  Inv X pins σ (upd H l (.lst ys)) { s with heap:=s.heap.update l (Obj.mapSeq f),toks:=t' }:=by
 have q:=PySem.IsL.update e f
 rw[hf] at q
 refine I.write (x:=l) (e:=l) (by rw[hH];exact trivial) (.inl rfl) (λ b' u hb hu=>(Heap.get?_update_other s.heap (Obj.mapSeq f) (Ne.symm hb)).trans hu) ⟨_,q⟩ ?_
 exact⟨hz,its',_,hv,q⟩
theorem Inv.lnew {its:List Value}{t':Nat}(I:Inv X pins σ H s) (hv:Vals ys its) (hz:ys.length<=sizeLine):
  Inv X pins σ (upd H s.heap.objs.size (.lst ys)) { s with heap:=s.heap.push { cls:=.type "list",data:=.seq its.toArray },toks:=t' }:=
 I.laid (λ _ _ q=>Heap.get?_push_of_some _ q) (Nat.le_refl _) ⟨hz,its,0,hv,Heap.get?_push_size _ rfl⟩
theorem Inv.fresh (I:Inv X pins σ H s):H s.heap.objs.size=none:=I.hok.fresh (Nat.le_refl _)
theorem Inv.lstM (I:Inv X pins σ H s) (hH:H l=some (.lst xs)):xs.length<=sizeLine/\∃ (its:List Value) (n:Nat),Vals xs its/\xs.length=its.length/\s.heap.get? l=some { cls:=.type "list",data:=.seq its.toArray n }:=by
 obtain⟨z,its,n,r,e⟩:=I.hok l _ hH
 exact⟨z,its,n,r,r.length,e⟩
end
section
variable {X:Cx}
def rAppend:V->List V->Hp->VK->Prop:=λ x vs H Q=>∃ l xs y,x=.ref l/\vs=[y]/\H l=some (.lst xs)/\xs.length<sizeLine/\Q .non (upd H l (.lst (xs++[y])))
theorem mt_append:MtM X "list.append" rAppend:=by
 intro pins s σ H x vs v us Q I rx rv h
 obtain⟨l,xs,y,rfl,rfl,hH,hz,q⟩:=h
 cases rx
 obtain⟨u,rfl,ru⟩:=rv.one
 obtain⟨z,its,n,r,hl,e⟩:=I.lstM hH
 refine call_meets F.slot_list_append ⟨_,e,rfl⟩ F.entry_list_append (F.args_list_append_2 _ _) (PySem.list_append l its.toArray n u (by rw[List.size_toArray];omega)) ⟨e,?_⟩
 refine⟨.non,_,I.lset (its':=its++[u]) hH e (by simp) (r.append (.cons ru .nil)) ?_,rfl,q⟩
 rw[List.length_append,List.length_singleton]
 omega
end
section
variable {prog:Program}{w:World}{A:Around}{E:Value->Shared->Prop}{s:Shared}
end
section
variable {X:Cx}
end
end L2
namespace Att
open PySem PySem.W PySem.Calls PyProof.Rows
theorem ints_of_wellAll {P:Params}{h:Heap}:∀ (ns:List Int) (vs:List Value),WellAll P h vs (ns.map WData.int)->IntsAre vs ns:=by
 intro ns
 induction ns with
 | nil=>
  intro vs w
  rw[List.map_nil] at w
  cases w
  exact .nil
 | cons n ns ih=>
  intro vs w
  rw[List.map_cons] at w
  cases w with
  | cons a b=>
   cases a
   exact .cons _ _ (ih _ b)
theorem script_of {l:OpenLaw}{n:Nat}(hn:l.most=some n) {P:Params}{h:Heap}{args:List WData}{vals:List Value}
  (hpre:l.row.toRowW.claim.pre args=true) (hwl:WellAll P h vals args):
  ∃ a vs ns,vals=[Value.ref a]/\args=[WData.list (ns.map WData.int)]/\h.get? a=some { cls:=.type "list",data:=.seq vs.toArray }/\IntsAre vs ns/\ns.length<=n:=by
 have hsh:WShape.hasAll [] args [.list .int]=true:=(pre_splitW hpre).1
 have hc:l.pre.holds [] { args:=args }=true:=(pre_splitW hpre).2
 obtain⟨d,r,rfl,h1,h2⟩:=hasAllW_cons hsh
 obtain rfl:=hasAllW_nil h2
 obtain⟨xs,rfl,h3⟩:=hasW_list h1
 obtain⟨ns,rfl⟩:=items_int h3
 have hlen:ns.length<=n:=by
  unfold OpenLaw.pre at hc
  have h4:(WTm.not (.lt (.lit (.int (n:Int))) (.len (.arg 0)))).holds [] { args:=[.list (ns.map .int)] }=true:=by
   have h4:=(holds_andW hc).1
   rw[hn] at h4
   exact h4
  have h5:=condW_of h4 (w_not (w_lt w_lit (w_len_list (w_arg rfl))))
  rw[List.length_map] at h5
  refine Nat.le_of_not_lt λ q=>?_
  have q':(n:Int)<((ns.length:Nat):Int):=by omega
  first
   | (rw[decide_eq_true q'] at h5;exact absurd h5 (by decide))
   | (simp at h5;omega)
 cases hwl with
 | cons w1 w2=>
  cases w2
  cases w1 with
  | list ho hall=>exact⟨_,_,ns,rfl,rfl,ho,ints_of_wellAll ns _ hall,hlen⟩
theorem post_true (l:OpenLaw) (args:List WData):l.row.toRowW.claim.post args (.bool true) args=true:=
 postW_of (r:=l.row.toRowW) (X:=(true == true))
  (show WShape.has [] (.bool true) .bool=true by first | rfl | decide | simp[WShape.has,WShape.arms,WShape.armsAll])
  (show (WTm.eq .res (.lit (.bool true))).value [] { args:=args,res:=some (.bool true),after:=args }=some (.bool (true == true)) from w_eq_bool (w_res rfl) w_lit) rfl
theorem attach_call {l:OpenLaw}{n:Nat}{q:Program}{loose:List Str}{XP:(Str->Option Value)->Heap->Prop}{YP:World->Heap->Prop}{d:DefRec}
  (hn:l.most=some n) (hdf:d.params.defaults=[])
  (call:∀ (w:World) (s₀ s₁:Shared) (mg mb:Str->Option Value) (fa:Addr) (o:Obj) (pm cd doc:Value) (a:Addr) (vs:List Value) (ns:List Int),
   Ground q loose [] XP w s₀ mg mb s₁.heap->YP w s₁.heap->
   s₁.heap.get? fa=some o->o.data=.func (docDef d.name d.params d.body d.scope pm cd doc)->s₁.heap.CodeRec cd d.name->mg d.name=some (.ref fa)->
   s₁.heap.get? a=some { cls:=.type "list",data:=.seq vs.toArray }->IntsAre vs ns->ns.length<=n->s₁.gens=#[]->
   codeAny (model l.prog w) callerA (.call (.ref fa) ⟨[.ref a],[]⟩) (λ r s'=>r=.ok (.ret (.bool true))/\OldK s₁.heap s'.heap/\s'.os=s₁.os/\AllBare s'.gens) s₁):
  WalkO q loose XP YP l.row.toRowW d [] (λ f vs=>PySem.call f vs):=by
 intro w s₀ s₁ mg mb G Y fa o pm cd doc dV kV ho hd hcd hD hmg hg args vals as hpre hlay hrd hwl hlo
 obtain rfl:dV=.none:=Dflts.none hD hdf
 obtain rfl:kV=.none:=Dflts.noKw hD
 obtain⟨a,vs,ns,rfl,rfl,hobj,hints,hlen⟩:=script_of hn hpre hwl
 refine enter_call (codeAny_mono (call w s₀ s₁ mg mb fa o pm cd doc a vs ns G Y ho (fd_plain hd) hcd hmg hobj hints hlen hg) λ r s' hq=>?_)
 obtain⟨rfl,h2,h3,h4⟩:=hq
 exact⟨.inl ⟨.bool true,.bool true,[],rfl,λ _=>rfl,.bool true,post_true l _,λ _=>⟨List.Pairwise.nil,λ _ hm=>(nomatch hm)⟩⟩,h2,h3,h4⟩
section
variable {prog:Program}{w:World}{A:Around}{E:Value->Shared->Prop}{s:Shared}{K:Frag}
end
end Att
namespace L2
open PySem PySem.Spec PyProof.Rows
theorem vals_ints:∀ {vs:List Value}{ns:List Int},IntsAre vs ns->Vals (ns.map V.int) vs
 | _,_,.nil=>.nil
 | _,_,.cons n t h=>.cons ⟨t,rfl⟩ (vals_ints h)
def Only (H:Hp):Prop:=∀ b,H b=none\/∃ o xs,H b=some (.frz o (.lst xs))
theorem law_call {P:Program}{w:World}{K:PySem.W.Frag}{mg mb:Str->Option Value}{CX:CXT}{k:Nat}{fa a:Addr}{fd:FuncData}{x:Str}{sp:Sp}{s₁:Shared}{vs:List Value}{ns:List Int}
  (KX:K.In s₁.heap) (hns:s₁.heap.Ns mainGlobals mg) (hb:s₁.heap.Ns builtinsNs mb) (hbb:∀ x:Str,x≠"__name__"->mb x=bootBuiltins x) (hlim:s₁.heap.NoLimit) (hg:s₁.gens=#[])
  (ha:s₁.heap.get? a=some { cls:=.type "list",data:=.seq vs.toArray }) (hi:IntsAre vs ns) (hl:ns.length<=sizeLine) (hr:Room k callerA)
  (F:∀ base:Heap,K.In base->base.Ns mainGlobals mg->FnOk P w K mg base CX k fa fd [x] sp) (hbind:∀ (s:Shared) (u:Value),BindsTo s fd ⟨[u],[]⟩ [(x,u)])
  (hsp:∀ H:Hp,Only H->SqL K H a (ns.map V.int)->sp [.ref a] H (λ v _=>v=.bl true) λ _ _ _=>False)
  (hCX:∀ H e s',CX [] H s₁ (λ _ _ _=>False) e s'->False):
  codeAny (model P w) callerA (.call (.ref fa) ⟨[.ref a],[]⟩) (λ r s'=>r=.ok (.ret (.bool true))/\OldK s₁.heap s'.heap/\s'.os=s₁.os/\AllBare s'.gens) s₁:=by
 have rv:=vals_ints hi
 have lenV:=hi.length
 -- from an abstract heap in which nothing but the script may be tracked
 have core:∀ H:Hp,Only H->SqL K H a (ns.map V.int)->HOk P w H s₁.heap->(∀ b,H b≠none->b=a)->(H a≠none->K.lookup a=none)->
   codeAny (model P w) callerA (.call (.ref fa) ⟨[.ref a],[]⟩) (λ r s'=>r=.ok (.ret (.bool true))/\OldK s₁.heap s'.heap/\s'.os=s₁.os/\AllBare s'.gens) s₁:=by
  intro H hO hS hok hA hK
  have base_of:∀ {b:Addr}{o:Obj},s₁.heap.get? b=some o->H b=none->(hidT s₁.heap H).get? b=some o:=λ e n=>hidT_get e n
  have noA:∀ {b:Addr}{o:Obj}{es:Array DictEntry}{ep:Nat},s₁.heap.get? b=some o->o.data=.dict es ep->H b=none:=λ{b o es ep} e d=>by
   cases q:H b with
   | none=>rfl
   | some u=>
    have e':b=a:=hA b (by rw[q];simp)
    subst e'
    rw[ha] at e;cases e
    have d':Data.seq vs.toArray _=Data.dict es ep:=d
    cases d'
  have nsK:∀ {b:Addr}{m:Str->Option Value},s₁.heap.Ns b m->(hidT s₁.heap H).Ns b m:=λ{b m} ⟨o,es,ep,e,d,r⟩=>⟨o,es,ep,base_of e (noA e d),d,r⟩
  have hKb:K.In (hidT s₁.heap H):=λ b o e=>base_of (KX b o e) (by
   cases q:H b with
   | none=>rfl
   | some u=>
    have e':b=a:=hA b (by rw[q];simp)
    subst e'
    rw[hK (by rw[q];simp)] at e;cases e)
  have hM:Mod K mg (hidT s₁.heap H):=⟨hKb,nsK hns,⟨mb,nsK hb,hbb⟩,let ⟨mc,h1,h2⟩:=hlim;⟨mc,nsK h1,h2⟩⟩
  have e0:Env0 P w K mg (hidT s₁.heap H) callerA [] s₁ H:=⟨rfl,hM,λ b o e=>of_hidT e,Nat.le_of_eq (hidT_size _ _),trivial,λ b hb=>absurd (show b∈([]:List Addr) from hb) (by simp),hok,.of_eq hg⟩
  refine codeAny_mono ((F _ hKb (nsK hns)).run callerA [] s₁ H ⟨[.ref a],[]⟩ [.ref a] [.ref a] _ _ hr e0 (hbind s₁ (.ref a)) (.cons rfl .nil) (hsp H hO hS)) λ r s' h=>?_
  cases r with
  | error e=>exact (hCX H e s' h).elim
  | ok fl=>
   cases fl with
   | next=>exact False.elim h
   | brk=>exact False.elim h
   | cont=>exact False.elim h
   | ret u=>
    obtain⟨v,H',os,bare,un,hok',r',q⟩:=h
    have q':v=.bl true:=q
    subst q'
    obtain rfl:u=Value.bool true:=r'
    refine⟨rfl,OldK.of_keep λ b o e=>?_,os,bare⟩
    cases q:H b with
    | none=>exact un.keep b o e q (by intro z;exact absurd (show b∈([]:List Addr) from z) (by simp)) (by simp)
    | some u=>
     rcases hO b with z | ⟨ob,xs,z⟩
     ·rw[q] at z;cases z
     ·have z2:=un.frzs b ob _ z
      obtain⟨e1,_⟩:=hok b _ z
      obtain⟨e2,_⟩:=hok' b _ z2
      rw[e] at e1;cases e1
      exact e2
 cases hk:K.lookup a with
 | some o=>
  -- the script is one of the module's own objects
  have e:=KX a o hk
  rw[ha] at e
  cases e
  refine core (λ _=>none) (λ _=>.inl rfl) (.inr ⟨_,vs.toArray,_,hk,rfl,rfl,rfl,by rw[List.size_toArray,lenV];exact hl,by simpa using rv⟩) (λ b u z=>by have z':(none:Option HO)=some u:=z;cases z') (λ b z=>absurd rfl z) λ z=>absurd rfl z
 | none=>
  refine core (λ b=>if b=a then some (.frz { cls:=.type "list",data:=.seq vs.toArray } (.lst (ns.map V.int))) else none) (λ b=>?_) (.inl (.inr ⟨{ cls:=.type "list",data:=.seq vs.toArray },if_pos rfl⟩)) (λ b u z=>?_) (λ b z=>?_) λ _=>hk
  ·by_cases hb:b=a
   ·exact .inr ⟨_,_,if_pos hb⟩
   ·exact .inl (if_neg hb)
  ·by_cases hb:b=a
   ·have z':=(if_pos hb).symm.trans z
    cases z'
    subst hb
    exact⟨ha,by rw[List.length_map];exact hl,vs,_,rv,ha⟩
   ·have z':=(if_neg hb).symm.trans z
    cases z'
  ·by_cases hb:b=a
   ·exact hb
   ·exact absurd (if_neg hb) z
end L2
namespace L2
open PySem PySem.Spec PyProof.Rows
theorem walk_of {l:PySem.W.OpenLaw}{n k:Nat}{q:Program}{loose:List Str}{XP:(Str->Option Value)->Heap->Prop}{YP:World->Heap->Prop}{d:DefRec}{K:Params->PySem.W.Frag}{CX:World->CXT}{sp:World->Sp}{x:Str}
  (hn:l.most=some n) (hn2:n<=sizeLine) (hdf:d.params.defaults=[]) (hr:Room k callerA)
  (hY:∀ (w:World) (h:Heap),YP w h->(K w.params).In h)
  (F:∀ (w:World) (mg:Str->Option Value) (fa:Addr) (h:Heap),(K w.params).In h->h.Ns mainGlobals mg->mg d.name=some (.ref fa)->
   ∃ fd:FuncData,(∀ (s:Shared) (u:Value),BindsTo s fd ⟨[u],[]⟩ [(x,u)])/\
    ∀ base:Heap,(K w.params).In base->base.Ns mainGlobals mg->FnOk l.prog w (K w.params) mg base (CX w) k fa fd [x] (sp w))
  (hsp:∀ (w:World) (H:Hp) (a:Addr) (ns:List Int),ns.length<=n->Only H->SqL (K w.params) H a (ns.map V.int)->sp w [.ref a] H (λ v _=>v=.bl true) λ _ _ _=>False)
  (hCX:∀ (w:World) (H:Hp) (s:Shared) (e:Value) (s':Shared),CX w [] H s (λ _ _ _=>False) e s'->False):
  PySem.W.WalkO q loose XP YP l.row.toRowW d [] (λ f vs=>PySem.call f vs):=by
 refine Att.attach_call hn hdf λ w s₀ s₁ mg mb fa o pm cd doc a vs ns G Y ho hd hcd hmg hobj hints hlen hg=>?_
 have KX:=hY w _ Y
 obtain⟨fd,hb,hF⟩:=F w mg fa _ KX G.T.g hmg
 exact law_call KX G.T.g G.T.b G.T.builtins G.T.nolimit hg hobj hints (Nat.le_trans hlen hn2) hr hF hb (λ H hO hS=>hsp w H a ns hlen hO hS) λ H e s'=>hCX w H s₁ e s'
end L2
namespace L2
open PySem PySem.Spec PyProof.Rows
noncomputable def defArgs (s:Stmt):Arguments:=match s with
 | .FunctionDef _ a _ _ _ _ _ _ _ _=>a
 | _=>{ posonlyargs:=[],args:=[],vararg:=none,kwonlyargs:=[],kw_defaults:=[],kwarg:=none,defaults:=[] }
noncomputable def defBody (s:Stmt):List Stmt:=match s with
 | .FunctionDef _ _ b _ _ _ _ _ _ _=>b
 | _=>[]
noncomputable def defScope (s:Stmt):Scope:=match s with
 | .FunctionDef _ _ _ _ _ _ sc _ _ _=>sc
 | _=>{ kind:=.function,names:=[],isGenerator:=false,isCoroutine:=false }
abbrev CX0:CXT:=λ _ _ _ _ _ _=>False
abbrev E0:XK:=λ _ _ _=>False
theorem pass0 {X:Cx}:Passes CX0 X E0:=λ _ _ _ _ _ _ _ h=>h.elim
structure Fun (K:PySem.W.Frag) (x qual:Str) (st:Stmt) (f:Addr) (fd:FuncData):Prop where
 ex:∃ (oc:Value) (od:Option Addr) (kV doc pm:Value) (an:Option Addr) (cdv ct:Value) (osl:Array (Option Value)),
  fd=PySem.W.fnOf x qual (defArgs st) (defBody st) (defScope st) .none kV doc pm an cdv ct/\K.lookup f=some ⟨oc,od,.func fd,osl⟩/\PySem.W.codeIn K cdv qual=true
 kp:PySem.W.keepIn K (.ref f)=true
section
variable {P:Program}{w:World}{K:PySem.W.Frag}{mg:Str->Option Value}{base:Heap}
theorem Fun.ok {x qual:Str}{st:Stmt}{f:Addr}{fd:FuncData}{N ps:List Str}{k:Nat}{sp:Sp}(F:Fun K x qual st f fd) (S:FnScope N ps (defScope st)) (len:∀ vs H Q E,sp vs H Q E->vs.length=ps.length)
  (hbody:∀ (cdv:Value) (A:Around) (outer:List Env) (s:Shared) (H:Hp) (vs:List V) (Q:VK) (E:XK),Room k (A.deeper (envOfC qual (defScope st) s.heap.objs.size f cdv))->sp vs H Q E->
   ∃ t,PSs (cxOf CX0 P w K mg base N qual (defScope st) f cdv A outer s H E).nox (defBody st) t/\t { nx:=λ _ H'=>Q .non H',rt:=Q } (start N vs) H):FnOk P w K mg base CX0 (k+1) f fd ps sp:=by
 obtain⟨oc,od,kV,doc,pm,an,cdv,ct,osl,rfl,lk,hcd⟩:=F.ex
 refine fn_of lk hcd S len λ A outer s H vs Q E hr hsp=>?_
 obtain⟨t,h,q⟩:=hbody cdv A outer s H vs Q E hr hsp
 exact⟨t,h.nox,q⟩
theorem Fun.binds {x qual:Str}{st:Stmt}{f:Addr}{fd:FuncData}{ps:List Str}(F:Fun K x qual st f fd)
  (h:∀ (kV doc pm:Value) (an:Option Addr) (cdv ct:Value) (us:List Value),us.length=ps.length->bindArgs (PySem.W.fnOf x qual (defArgs st) (defBody st) (defScope st) .none kV doc pm an cdv ct) ⟨us,[]⟩=pure (ps.zip us)):Binds K fd ps []:=by
 obtain⟨oc,od,kV,doc,pm,an,cdv,ct,osl,rfl,lk,hcd⟩:=F.ex
 exact .all (h kV doc pm an cdv ct)
theorem fun_mk {x qual:Str}{st:Stmt}{f:Addr}{oc:Value}{od an:Option Addr}{osl:Array (Option Value)}{kV doc pm cdv ct:Value}(l:K.lookup f=some ⟨oc,od,.func (PySem.W.fnOf x qual (defArgs st) (defBody st) (defScope st) .none kV doc pm an cdv ct),osl⟩)
  (c:PySem.W.codeIn K cdv qual=true) (k:PySem.W.keepIn K (.ref f)=true):Fun K x qual st f (PySem.W.fnOf x qual (defArgs st) (defBody st) (defScope st) .none kV doc pm an cdv ct):=⟨⟨oc,od,kV,doc,pm,an,cdv,ct,osl,rfl,l,c⟩,k⟩
end
section
variable {X:Cx}
theorem pv (i:Nat) {x:Str}{pos:Pos}(hN:X.N[i]?=some x:=by rfl) (hv:Vis X.env.scope x:=by first | exact Or.inl rfl | exact Or.inr (Or.inl rfl) | exact Or.inr (Or.inr rfl)) (hd:(x == ("__debug__":Str))=false:=by decide)
  (hcd:(x == ("__classdict__":Str))=false:=by decide):PE X (.Name x pos) (tVar i):=pe_var hN hv hd hcd
end
def Same (H H':Hp):Prop:=∀ b o,H b=some o->H' b=some o
end L2
namespace PySem
theorem closure_go {env:Env}:∀ (l:List (Str×NameKind)) (acc:List (Str×Addr)),(∀ y∈l,y.2=.free->∃ c,env.cells.lookup y.1=some c)->
  ∃ cl,(forIn l acc (λ(x:Str×NameKind) r=>if (x.2 == NameKind.free)=true then do let a <- cellOf env x.1;pure (ForInStep.yield ((x.1,a)::r)) else pure (ForInStep.yield r)):Sem (List (Str×Addr)))=pure cl/\
   (∀ x c,cl.lookup x=some c->acc.lookup x=some c\/((x,NameKind.free)∈l/\env.cells.lookup x=some c))/\(∀ x,(x,NameKind.free)∈l\/(acc.lookup x).isSome->(cl.lookup x).isSome)
 | [],acc,_=>⟨acc,rfl,λ x c h=>.inl h,λ x h=>by simpa using h⟩
 | (n,k)::l,acc,h=>by
  by_cases hk:k=.free
  ·subst hk
   obtain⟨c,hc⟩:=h (n,.free) List.mem_cons_self rfl
   obtain⟨cl,e1,e2,e3⟩:=closure_go l ((n,c)::acc) λ y hy=>h y (List.mem_cons_of_mem _ hy)
   refine⟨cl,?_,λ x d hx=>?_,λ x hx=>?_⟩
   ·rw[List.forIn_cons]
    simp only[beq_self_eq_true,if_true,cellOf,hc]
    exact e1
   ·rcases e2 x d hx with q | ⟨q1,q2⟩
    ·rw[List.lookup_cons] at q
     cases hxn:x == n with
     | true=>
      rw[hxn] at q
      have:x=n:=by simpa using hxn
      subst this
      refine .inr ⟨List.mem_cons_self,?_⟩
      rw[hc];exact q
     | false=>rw[hxn] at q;exact .inl q
    ·exact .inr ⟨List.mem_cons_of_mem _ q1,q2⟩
   ·refine e3 x ?_
    rcases hx with hx | hx
    ·rcases List.mem_cons.mp hx with q | q
     ·have:x=n:=congrArg Prod.fst q
      subst this
      exact .inr (by simp[List.lookup_cons])
     ·exact .inl q
    ·refine .inr ?_
     rw[List.lookup_cons]
     cases x == n <;> simp[hx]
  ·have hb:(k == NameKind.free)=false:=by simpa using hk
   obtain⟨cl,e1,e2,e3⟩:=closure_go l acc λ y hy=>h y (List.mem_cons_of_mem _ hy)
   refine⟨cl,?_,λ x d hx=>?_,λ x hx=>?_⟩
   ·rw[List.forIn_cons]
    simp only[hb,Bool.false_eq_true,if_false]
    exact e1
   ·rcases e2 x d hx with q | ⟨q1,q2⟩
    ·exact .inl q
    ·exact .inr ⟨List.mem_cons_of_mem _ q1,q2⟩
   ·refine e3 x ?_
    rcases hx with hx | hx
    ·rcases List.mem_cons.mp hx with q | q
     ·exact absurd (congrArg Prod.snd q).symm hk
     ·exact .inl q
    ·exact .inr hx
theorem closure_of {scope:Scope}{env:Env}(h:∀ y∈scope.names,y.2=.free->∃ c,env.cells.lookup y.1=some c):
  ∃ cl,closureFor scope env=pure cl/\(∀ x c,cl.lookup x=some c->(x,NameKind.free)∈scope.names/\env.cells.lookup x=some c)/\∀ x,(x,NameKind.free)∈scope.names->(cl.lookup x).isSome:=by
 obtain⟨cl,e1,e2,e3⟩:=closure_go (env:=env) scope.names [] h
 refine⟨cl,?_,λ x c hx=>?_,λ x hx=>e3 x (.inl hx)⟩
 ·simp only[closureFor]
  rw[e1]
  rfl
 ·rcases e2 x c hx with q | q
  ·simp at q
  ·exact q
theorem lookup_relabel_free {env:Env}:∀ {names:List (Str×NameKind)}{x:Str},names.lookup x=some .free->
  (names.map λ(n,k)=>if (k == NameKind.free&&env.scope.kind == .function&&env.kindOf n == some .cell) then (n,NameKind.cell) else (n,k)).lookup x=some .cell\/
  (names.map λ(n,k)=>if (k == NameKind.free&&env.scope.kind == .function&&env.kindOf n == some .cell) then (n,NameKind.cell) else (n,k)).lookup x=some .free
 | [],_,h=>by simp at h
 | (n,k)::r,x,h=>by
  have ih:=@lookup_relabel_free env r x
  show List.lookup x ((if (k == NameKind.free&&env.scope.kind == .function&&env.kindOf n == some .cell)=true then (n,NameKind.cell) else (n,k))::_)=_\/List.lookup x ((if (k == NameKind.free&&env.scope.kind == .function&&env.kindOf n == some .cell)=true then (n,NameKind.cell) else (n,k))::_)=_
  cases hx:x == n with
  | true=>
   simp only[List.lookup_cons,hx] at h
   cases h
   by_cases hc:(NameKind.free == NameKind.free&&env.scope.kind == .function&&env.kindOf n == some .cell)=true
   ·rw[if_pos hc];simp[List.lookup_cons,hx]
   ·rw[if_neg hc];simp[List.lookup_cons,hx]
  | false=>
   simp only[List.lookup_cons,hx] at h
   by_cases hc:(k == NameKind.free&&env.scope.kind == .function&&env.kindOf n == some .cell)=true
   ·rw[if_pos hc];simp only[List.lookup_cons,hx];exact ih h
   ·rw[if_neg hc];simp only[List.lookup_cons,hx];exact ih h
theorem relabel_back {env:Env}:∀ {names:List (Str×NameKind)}{x:Str},(∀ y∈names,y.2≠.cell)->
  ((names.map λ(n,k)=>if (k == NameKind.free&&env.scope.kind == .function&&env.kindOf n == some .cell) then (n,NameKind.cell) else (n,k)).lookup x=some .cell\/
  (names.map λ(n,k)=>if (k == NameKind.free&&env.scope.kind == .function&&env.kindOf n == some .cell) then (n,NameKind.cell) else (n,k)).lookup x=some .free)->(x,NameKind.free)∈names
 | [],_,_,h=>by simp at h
 | (n,k)::r,x,hn,h=>by
  have ih:=@relabel_back env r x λ y hy=>hn y (List.mem_cons_of_mem _ hy)
  have h':List.lookup x ((if (k == NameKind.free&&env.scope.kind == .function&&env.kindOf n == some .cell)=true then (n,NameKind.cell) else (n,k))::_)=some .cell\/List.lookup x ((if (k == NameKind.free&&env.scope.kind == .function&&env.kindOf n == some .cell)=true then (n,NameKind.cell) else (n,k))::_)=some .free:=h
  have hf:∀ k',((if (k == NameKind.free&&env.scope.kind == .function&&env.kindOf n == some .cell)=true then (n,NameKind.cell) else (n,k)):Str×NameKind)=(n,k')->(k'=.cell\/k'=.free)->k=.free:=by
   intro k' e hk'
   by_cases hc:(k == NameKind.free&&env.scope.kind == .function&&env.kindOf n == some .cell)=true
   ·simp only[Bool.and_eq_true] at hc;simpa using hc.1.1
   ·rw[if_neg hc] at e
    have:k=k':=congrArg Prod.snd e
    subst this
    rcases hk' with q | q
    ·exact absurd q (hn (n,k) List.mem_cons_self)
    ·exact q
  cases hx:x == n with
  | true=>
   have hxn:x=n:=by simpa using hx
   subst hxn
   by_cases hc:(k == NameKind.free&&env.scope.kind == .function&&env.kindOf x == some .cell)=true
   ·simp only[Bool.and_eq_true] at hc
    have:k=.free:=by simpa using hc.1.1
    subst this;exact List.mem_cons_self
   ·rw[if_neg hc] at h'
    simp only[List.lookup_cons,beq_self_eq_true] at h'
    rcases h' with q | q
    ·exact absurd (Option.some.inj q) (hn (x,k) List.mem_cons_self)
    ·have:=Option.some.inj q
     subst this;exact List.mem_cons_self
  | false=>
   refine List.mem_cons_of_mem _ (ih ?_)
   by_cases hc:(k == NameKind.free&&env.scope.kind == .function&&env.kindOf n == some .cell)=true
   ·rw[if_pos hc] at h';simp only[List.lookup_cons,hx] at h';exact h'
   ·rw[if_neg hc] at h';simp only[List.lookup_cons,hx] at h';exact h'
end PySem
namespace L2
open PySem PySem.Spec PyProof.Rows
noncomputable def pickSt (pick:List (Option Nat)) (σ:St):St:=pick.map λ o=>o.bind λ i=>(σ[i]?).join
noncomputable def cxC (X:Cx) (N':List Str) (scope:Scope) (cl:List (Str×Addr)) (C:Addr) (s:Shared) (H:Hp) (ex:List Addr):Cx:=
 { X with N:=N',s₀:=s,H₀:=H,env:=compEnvC scope cl C X.env,outer:=X.stack,stack:=X.stack,ex:=ex,fn:=λ _=>false,pn:=[],xe:=λ _ _=>False }
noncomputable def pickOk (N N':List Str) (pick:List (Option Nat)) (scope:Scope):Bool:=(N'.zip pick).all λ p=>match p.2 with
 | none=>true
 | some j=>decide (N[j]?=some p.1)&&decide (scope.names.lookup p.1=some .free)
structure CScope (X:Cx) (N':List Str) (pick:List (Option Nat)) (scope:Scope):Prop where
 kind:scope.kind=.function
 nocell:∀ y∈scope.names,y.2≠.cell
 names:∀ y∈scope.names,y.2=.local->scope.names.lookup y.1=some .local
 free:∀ y∈scope.names,y.2=.free->X.env.scope.names.lookup y.1=some .cell\/X.env.scope.names.lookup y.1=some .free
 len:pick.length=N'.length
 ok:pickOk X.N N' pick scope=true
theorem pickOk.get {N N':List Str}{pick:List (Option Nat)}{scope:Scope}(h:pickOk N N' pick scope=true) {i j:Nat}{x:Str}(h1:N'[i]?=some x) (h2:pick[i]?=some (some j)):N[j]?=some x/\scope.names.lookup x=some .free:=by
 unfold pickOk at h
 have hm:(x,some j)∈N'.zip pick:=by
  refine List.mem_of_getElem? (i:=i) ?_
  rw[List.getElem?_zip_eq_some]
  exact⟨h1,h2⟩
 have q:=List.all_eq_true.mp h _ hm
 simp only[Bool.and_eq_true,decide_eq_true_eq] at q
 exact q
theorem pickSt.get {pick:List (Option Nat)}{σ:St}{i:Nat}{v:V}(h:(pickSt pick σ)[i]?=some (some v)):∃ j,pick[i]?=some (some j)/\σ[j]?=some (some v):=by
 unfold pickSt at h
 rw[List.getElem?_map] at h
 cases e:pick[i]? with
 | none=>rw[e] at h;cases h
 | some o=>
  rw[e] at h
  cases o with
  | none=>simp at h
  | some j=>
   refine⟨j,rfl,?_⟩
   simp only[Option.map_some,Option.some.injEq,Option.bind_some] at h
   cases q:σ[j]? with
   | none=>rw[q] at h;simp at h
   | some w=>rw[q] at h;simp at h;rw[h]
def PF (X:Cx) (ifs:List Expr) (t:TT):Prop:=∀ (pins:List (Addr×Obj)) (s:Shared) (σ:St) (H:Hp) (Q:Bool->Hp->Prop),Inv X pins σ H s->t σ H Q->
 wpAny (model X.prog X.w) X.A (forIn ifs true λ c r=>if r=true then do let ok <- isTrue c X.env (eval c X.env);pure (ForInStep.yield ok) else pure (ForInStep.yield r)) (TP X pins σ Q) X.xe s
theorem pf_nil {X:Cx}:PF X [] (λ _ H Q=>Q true H):=λ _ _ _ H _ I h=>wpAny_tests_nil ⟨H,I,h⟩
theorem pf_one {X:Cx}{c:Expr}{t:TT}(h:PT X c t):PF X [c] t:=λ pins s σ H Q I q=>wpAny_tests_one (h pins s σ H Q I q)
def tLC (pick:List (Option Nat)) (wi:TI) (g:TG) (tc:TT) (te:TE):TE:=fun σ H Q=>wi σ H λ J H1=>∀ D,H1 D=none->∃ W:Nat->Nat->St->Hp->Prop,(∃ m,W 0 m (pickSt pick σ) (upd H1 D (.lst [])))/\
 ∀ i m σ H,W i m σ H->(J.stop i H/\Q (.ref D) H)\/(J.go i H/\∀ x H',J.yld i H x H'->g x σ H' fun σ2 H2=>tc σ2 H2 λ b H3=>
  if b=true then te σ2 H3 λ y H4=>∃ ys m',H4 D=some (.lst ys)/\ys.length<sizeLine/\m'<m/\W (i+1) m' σ2 (upd H4 D (.lst (ys++[y]))) else ∃ m',m'<m/\W (i+1) m' σ2 H3)
section
variable {X:Cx}{pins:List (Addr×Obj)}{σ:St}{H:Hp}{s:Shared}{N':List Str}{pick:List (Option Nat)}{scope:Scope}{cl:List (Str×Addr)}{C:Addr}{fp:List Addr}
theorem inv_comp (S:CScope X N' pick scope) (I:Inv X pins σ H s) (hfp:∀ b∈fp,FpOk X pins H b) (hlt:∀ b∈fp,b<s.heap.objs.size)
  (c1:∀ x c,cl.lookup x=some c->(x,NameKind.free)∈scope.names/\X.env.cells.lookup x=some c) (c2:∀ x,(x,NameKind.free)∈scope.names->(cl.lookup x).isSome)
  {h1:Heap}{m1:Str->Option Value}{t':Nat}(hC:s.heap.objs.size<C) (old:∀ b o,s.heap.get? b=some o->h1.get? b=some o) (hns:h1.Ns C m1)
  (hD:h1.get? s.heap.objs.size=some { cls:=.type "list",data:=.seq #[] 0 }):
  Inv (cxC X N' scope cl C s H fp) [] (pickSt pick σ) (upd H s.heap.objs.size (.lst [])) { s with heap:=h1,toks:=t' }:=by
 have hDn:H s.heap.objs.size=none:=I.hok.fresh (Nat.le_refl _)
 have hCn:H C=none:=I.hok.fresh (Nat.le_of_lt hC)
 have clt:∀ x c,cl.lookup x=some c->c<s.heap.objs.size:=λ x c e=>by
  obtain⟨v,q⟩:=I.cell x c (c1 x c e).2
  exact q.lt
 refine⟨⟨I.ok.mod,S.kind,I.ok.glob,I.ok.blt,Nat.le_of_lt hC,λ x y c e1 e2=>I.ok.inj x y c (c1 x c e1).2 (c1 y c e2).2,λ x hx=>?_,λ x c hf _=>absurd (show false=true from hf) Bool.false_ne_true,I.ok.hd,I.ok.frames,.inl rfl,
  λ b hb=>⟨Nat.ne_of_lt (Nat.lt_trans (hlt b hb) hC),λ x c e=>(hfp b hb).2.2.2.2.1 x c (c1 x c e).2⟩,I.bs,Nat.le_trans I.ok.bsz I.sz,λ b o e hb=>?_,λ b hb z=>?_,I.stack,I.stkFree⟩,
  rfl,I.bare,Un.laid old (Nat.le_refl _) hDn,⟨m1,hns,λ i x v e1 e2 e3=>?_⟩,λ x c e=>?_,?_,λ x c e=>?_,λ p hp=>absurd (show p∈([]:List (Addr×Obj)) from hp) (by simp),I.hok.laid old (Nat.le_refl _) ?_,?_⟩
 ·exact Option.isSome_iff_exists.mp (c2 x (relabel_back S.nocell hx))
 ·rcases (hfp b hb).2.2.2.1 with z | z
  ·exact I.ok.noex b o e z
  ·exact absurd (Nat.lt_of_lt_of_le (Heap.lt_size (I.ok.bs b o e).1) z) (Nat.lt_irrefl _)
 ·rcases List.mem_cons.mp (I.stkSub b z) with q | q
  ·exact (hfp b hb).2.1 q
  ·exact (hfp b hb).2.2.1 q
 ·obtain⟨j,p1,p2⟩:=pickSt.get e2
  obtain⟨q1,q2⟩:=pickOk.get S.ok e1 p1
  obtain⟨m0,n0,l0⟩:=I.loc
  have hm:(x,NameKind.free)∈scope.names:=PySem.mem_of_lookup q2
  have hk:X.env.scope.names.lookup x=some .cell\/X.env.scope.names.lookup x=some .free:=S.free _ hm rfl
  obtain⟨u,r,l⟩:=l0 j x v q1 p2 (.inr hk)
  refine⟨u,r,.inr ⟨lookup_relabel_free q2,?_⟩⟩
  rcases l with ⟨k,_⟩ | ⟨_,c,e,z⟩
  ·have k':X.env.scope.names.lookup x=some .local:=k
   rcases hk with hk | hk <;> (rw[k'] at hk;cases hk)
  ·obtain⟨c',e'⟩:=Option.isSome_iff_exists.mp (c2 x hm)
   have e'':=(c1 x c' e').2
   rw[e] at e'';cases e''
   obtain⟨o,z1,z2⟩:=z
   exact⟨c,e',o,old _ _ z1,z2⟩
 ·obtain⟨v,o,z1,z2⟩:=I.cell x c (c1 x c e).2
  exact⟨v,o,old _ _ z1,z2⟩
 ·show upd H s.heap.objs.size (.lst []) C=none
  rw[upd_ne (Nat.ne_of_gt hC)];exact hCn
 ·show upd H s.heap.objs.size (.lst []) c=none
  rw[upd_ne (Nat.ne_of_lt (clt x c e))];exact I.freeC x c (c1 x c e).2
 ·exact⟨Nat.zero_le _,[],0,.nil,hD⟩
 ·show (pickSt pick σ).length=N'.length
  unfold pickSt
  rw[List.length_map];exact S.len
theorem inv_uncomp {σ':St}{H':Hp}{s':Shared}{oC:Obj}(I:Inv X pins σ H s) (hfp:∀ b∈fp,FpOk X pins H b) (hC:s.heap.objs.size<C)
  (I':Inv (cxC X N' scope cl C s H fp) [] σ' H' s') (hoC:s'.heap.get? C=some oC):Inv X (pins++[(C,oC)]) σ H' s':=by
 have J:Inv X pins σ H' s':=I.call' (ch:=fp) I'.os I'.base I'.hok I'.bare λ b hb=>⟨(hfp b hb).2.2.2.1,(hfp b hb).2.1,(hfp b hb).2.2.2.2.1,(hfp b hb).2.2.2.2.2⟩
 refine J.pins_of λ p hp=>(List.mem_append.mp hp).elim (λ z=>J.pin p (List.mem_append_right _ z)) λ z=>?_
 obtain rfl:p=(C,oC):=List.mem_singleton.mp z
 refine⟨hoC,I'.free,Nat.ne_of_gt (Nat.lt_trans I.lt hC),I.nofs (Nat.le_of_lt hC),λ v hv=>?_⟩
 obtain⟨m,⟨o,es,ep,ho,hd,_⟩,_⟩:=I'.loc
 have ho':s'.heap.get? C=some o:=ho
 rw[hoC] at ho';cases ho'
 rw[hd] at hv;cases hv
theorem inv_letgo {σ':St}{H':Hp}{s':Shared}{oC:Obj}{h':Heap}(I:Inv X pins σ H s) (hC:s.heap.objs.size<C) (J:Inv X (pins++[(C,oC)]) σ' H' s') (hs:Heap.SameBut C s'.heap h'):Inv X pins σ' H' { s' with heap:=h' }:=by
 have J':=J.unpinned
 have hp:=J.pin (C,oC) (List.mem_append_right _ (List.mem_append_right _ (List.mem_singleton.mpr rfl)))
 have lt:∀ c,c<s.heap.objs.size->c≠C:=λ c h=>Nat.ne_of_lt (Nat.lt_trans h hC)
 refine J'.turned (t':=s'.toks) (it:=C) (λ b o hb e=>hs.extBut b o hb e) hp.2.1 hp.2.2.1 (.inr (Nat.le_trans I.sz (Nat.le_of_lt hC))) (λ x c e z=>?_) (λ p hq z=>?_)
 ·obtain⟨v,q⟩:=I.cell x c e
  exact lt c q.lt z
 ·exact lt p.1 (Heap.lt_size (I.pin p hq).1) z
end
section
variable {X:Cx}{N':List Str}{pick:List (Option Nat)}{scope:Scope}{elt iter tg:Expr}{ifs:List Expr}{pos:Pos}{wi:TI}{g:TG}{tc:TT}{te:TE}
theorem lc_loop {pins:List (Addr×Obj)}{σ:St}{H:Hp}{s:Shared}{it C:Addr}{fp:List Addr}{tn:Nat->Heap->Prop}{J:It}{cl:List (Str×Addr)}{W:Nat->Nat->St->Hp->Prop}{Q:V->Hp->Prop}{R:Result->Shared->Prop}{D:Addr}
  (hc:X.calm=true) (hg:PG (cxC X N' scope cl C s H fp) tg g) (hf:PF (cxC X N' scope cl C s H fp) ifs tc) (he:PE (cxC X N' scope cl C s H fp) elt te)
  (T:Turn X.prog X.w X.K tg J fp it tn) (hfp:∀ b∈fp,FpOk X pins H b) (hstat:∀ b∈fp,b≠C/\b∉frs X.stack/\∀ x c,cl.lookup x=some c->c≠b)
  (turn:∀ i m σ H,W i m σ H->(J.stop i H/\Q (.ref D) H)\/(J.go i H/\∀ x H',J.yld i H x H'->g x σ H' fun σ2 H2=>tc σ2 H2 λ b H3=>
   if b=true then te σ2 H3 λ y H4=>∃ ys m',H4 D=some (.lst ys)/\ys.length<sizeLine/\m'<m/\W (i+1) m' σ2 (upd H4 D (.lst (ys++[y]))) else ∃ m',m'<m/\W (i+1) m' σ2 H3))
  (fin:∀ σ' H' s',Inv (cxC X N' scope cl C s H fp) [] σ' H' s'->Q (.ref D) H'->R (.ok .next) s')
  {m0:Nat}{σ0:St}{H0:Hp}{s0:Shared}(I0:Inv (cxC X N' scope cl C s H fp) [] σ0 H0 s0) (t0:tn 0 s0.heap) (f0:∀ b∈fp,H0 b=none) (w0:W 0 m0 σ0 H0):
  codeAny (model X.prog X.w) X.A (.compLoop (.ListComp elt [⟨tg,iter,ifs,0⟩] scope pos) 0 (.ref it) (.ref D) (compEnvC scope cl C X.env)) R s0:=by
 have stat:∀ {H':Hp},(∀ b∈fp,H' b=none)->∀ b∈fp,FpOk (cxC X N' scope cl C s H fp) [] H' b:=λ hn b hb=>⟨hn b hb,(hstat b hb).1,(hstat b hb).2.1,.inl hb,(hstat b hb).2.2,λ p hp=>absurd (show p∈([]:List (Addr×Obj)) from hp) (by simp)⟩
 refine codeAny_loop rfl (λ n s'=>∃ i σ' H',Inv (cxC X N' scope cl C s H fp) [] σ' H' s'/\tn i s'.heap/\(∀ b∈fp,H' b=none)/\W i n σ' H') (λ n s3 hI=>?_) m0 ⟨0,σ0,H0,I0,t0,f0,w0⟩
 obtain⟨i,σ3,H3,I3,st3,fr3,w3⟩:=hI
 show wpAny _ X.A ((compTurn (.ListComp elt [⟨tg,iter,ifs,0⟩] scope pos) 0 (.ref it) (.ref D) (compEnvC scope cl C X.env)).onRaise (λ x=>do noteFrame x (compEnvC scope cl C X.env);theTreesLotGoes x)) _ _ s3
 refine wpAny_noted ?_
 rw[compTurn_list]
 refine wpAny_bind (wpAny_standAt (wpAny_bind ?_))
 rcases turn i n σ3 H3 w3 with ⟨stop,qn⟩ | ⟨go,step⟩
 ·refine thn (T.done (cxC X N' scope cl C s H fp) rfl rfl rfl hc i [] s3 σ3 H3 _ I3 (stat fr3) st3 stop) λ r s4 ⟨hr,I4⟩=>?_
  subst hr
  exact wpAny_pure (fin σ3 H3 s4 I4 qn)
 ·refine thn (T.item (cxC X N' scope cl C s H fp) rfl rfl rfl hc i [] s3 σ3 H3 _ I3 (stat fr3) st3 go) λ r s4 ⟨u,hr,h4⟩=>?_
  subst hr
  refine wpAny_bind (thn h4 λ _ s5 ⟨x,H5,I5,r5,y5,st5,fr5⟩=>?_)
  have I5':=I5.pinned (stat fr5) (T.obj _ _ st5)
  refine wpAny_bind (wpAny_mono (hg _ s5 σ3 H5 x u _ I5' r5 (step x H5 y5)) (λ _ s6 ⟨σ6,H6,I6,q6⟩=>?_) λ _ _ z=>False.elim z)
  refine wpAny_bind (wpAny_mono (hf _ s6 σ6 H6 _ I6 q6) (λ ok s7 ⟨H7,I7,q7⟩=>?_) λ _ _ z=>False.elim z)
  have back:∀ {H8:Hp}{s8:Shared},Inv (cxC X N' scope cl C s H fp) ([]++pinsAt fp s5.heap) σ6 H8 s8->(∃ m',m'<n/\W (i+1) m' σ6 H8)->∃ m,m<n/\∃ i σ' H',Inv (cxC X N' scope cl C s H fp) [] σ' H' s8/\tn i s8.heap/\(∀ b∈fp,H' b=none)/\W i m σ' H':=λ{H8 s8} I8 ⟨m',hm,w8⟩=>by
   refine⟨m',hm,i+1,σ6,H8,I8.unpinned,T.keep _ _ _ st5 λ b hb o e=>(I8.pin (b,o) (List.mem_append_right _ (List.mem_append_right _ (mem_pinsAt hb e)))).1,λ b hb=>?_,w8⟩
   obtain⟨o,e,d⟩:=T.obj _ _ st5 b hb
   exact (I8.pin (b,o) (List.mem_append_right _ (List.mem_append_right _ (mem_pinsAt hb e)))).2.1
  cases ok with
  | false=>
   rw[if_neg Bool.false_ne_true] at q7
   exact wpAny_pure ⟨rfl,back I7 q7⟩
  | true=>
   rw[if_pos rfl] at q7
   refine wpAny_bind (wpAny_bind (wpAny_mono (he _ s7 σ6 H7 _ I7 q7) (λ uy s8 ⟨y,H8,I8,r8,ys,m',e8,z8,hm,w8⟩=>?_) λ _ _ z=>False.elim z))
   refine wpAny_bind (wpAny_mono (mt_append (X:=cxC X N' scope cl C s H fp) _ s8 σ6 H8 (.ref D) [y] (.ref D) [uy] (λ _ H9=>W (i+1) m' σ6 H9) I8 rfl (.cons r8 .nil) ⟨D,ys,y,rfl,rfl,e8,z8,w8⟩) (λ _ s9 ⟨_,H9,I9,_,q9⟩=>?_) λ _ _ z=>False.elim z)
   exact wpAny_pure (wpAny_pure ⟨rfl,back I9 ⟨m',hm,q9⟩⟩)
theorem lc_block {pins:List (Addr×Obj)}{σ:St}{H:Hp}{s:Shared}{it:Addr}{fp:List Addr}{tn:Nat->Heap->Prop}{J:It}{cl:List (Str×Addr)}{Q:V->Hp->Prop}{E:Value->Shared->Prop}{RR:Value->Addr->Result->Shared->Prop}
  (S:CScope X N' pick scope) (hc:X.calm=true) (hg:∀ cl C s H fp,PG (cxC X N' scope cl C s H fp) tg g) (hf:∀ cl C s H fp,PF (cxC X N' scope cl C s H fp) ifs tc) (he:∀ cl C s H fp,PE (cxC X N' scope cl C s H fp) elt te)
  (c1:∀ x c,cl.lookup x=some c->(x,NameKind.free)∈scope.names/\X.env.cells.lookup x=some c) (c2:∀ x,(x,NameKind.free)∈scope.names->(cl.lookup x).isSome)
  (I:Inv X pins σ H s) (T:Turn X.prog X.w X.K tg J fp it tn) (t0:tn 0 s.heap) (hfp:∀ b∈fp,FpOk X pins H b)
  (rd:∀ D,H D=none->∃ W:Nat->Nat->St->Hp->Prop,(∃ m,W 0 m (pickSt pick σ) (upd H D (.lst [])))/\
   ∀ i m σ H,W i m σ H->(J.stop i H/\Q (.ref D) H)\/(J.go i H/\∀ x H',J.yld i H x H'->g x σ H' fun σ2 H2=>tc σ2 H2 λ b H3=>
    if b=true then te σ2 H3 λ y H4=>∃ ys m',H4 D=some (.lst ys)/\ys.length<sizeLine/\m'<m/\W (i+1) m' σ2 (upd H4 D (.lst (ys++[y]))) else ∃ m',m'<m/\W (i+1) m' σ2 H3))
  (fin:∀ C D oC H' s',s.heap.objs.size<C->Inv X (pins++[(C,oC)]) σ H' s'->s'.heap.get? C=some oC->(∃ m,s'.heap.Ns C m)->Q (.ref D) H'->RR (.ref D) C (.ok .next) s'):
  wpAny (model X.prog X.w) X.A (newList []) (λ acc s₃=>wpAny (model X.prog X.w) X.A (newFunctionEnv scope X.env.globals cl [] X.env.qual none .none (some X.env)) (λ cenv s₄=>
   codeAny (model X.prog X.w) X.A (.compStart (.ListComp elt [⟨tg,iter,ifs,0⟩] scope pos) 0 (.ref it) acc { cenv with scope:=relabel scope X.env }) (RR acc cenv.locals) s₄) E s₃) E s:=by
 refine wpAny_newObj_type (wpAny_newFunctionEnv S.nocell (by intro y hy;simp at hy) (λ h₁ hns₁ hsb₁=>?_) S.kind)
 dsimp only at hns₁ hsb₁ ⊢
 generalize hH2:s.heap.push { cls:=.type "list",dict:=none,data:=.seq ([]:List Value).toArray }=H2 at hns₁ hsb₁ ⊢
 have hC:H2.objs.size=s.heap.objs.size+1:=by rw[<- hH2,Heap.size_push]
 have hlt:s.heap.objs.size<H2.objs.size:=by rw[hC];exact Nat.lt_succ_self _
 have old:∀ b o,s.heap.get? b=some o->h₁.get? b=some o:=λ b o e=>hsb₁.extBut b o (Nat.ne_of_lt (Nat.lt_trans (Heap.lt_size e) hlt)) (Heap.get?_push_of_some _ (hH2▸Heap.get?_push_of_some _ e))
 have hacc:h₁.get? s.heap.objs.size=some { cls:=.type "list",data:=.seq #[] 0 }:=hsb₁.extBut _ _ (Nat.ne_of_lt hlt) (Heap.get?_push_of_some _ (hH2▸Heap.get?_push_size _ rfl))
 have hflt:∀ b∈fp,b<s.heap.objs.size:=λ b hb=>by
  obtain⟨o,e,_⟩:=T.obj _ _ t0 b hb
  exact Heap.lt_size e
 have hDn:H s.heap.objs.size=none:=I.hok.fresh (Nat.le_refl _)
 obtain⟨W,⟨m0,w0⟩,turn⟩:=rd s.heap.objs.size hDn
 have I0:=inv_comp (t':=s.toks+([]:List (Str×Value)).length) S I hfp hflt c1 c2 hlt old hns₁ hacc
 have t1:tn 0 h₁:=T.keep _ _ _ t0 λ b _ o e=>old b o e
 have hst:∀ b∈fp,b≠H2.objs.size/\b∉frs X.stack/\∀ x c,cl.lookup x=some c->c≠b:=λ b hb=>I0.ok.exf b hb |> λ q=>⟨q.1,I0.ok.exfs b hb,q.2⟩
 have loop:codeAny (model X.prog X.w) X.A (.compLoop (.ListComp elt [⟨tg,iter,ifs,0⟩] scope pos) 0 (.ref it) (.ref s.heap.objs.size) (compEnvC scope cl H2.objs.size X.env)) (RR (.ref s.heap.objs.size) H2.objs.size) { s with heap:=h₁,toks:=s.toks+([]:List (Str×Value)).length }:=by
  refine lc_loop (σ:=σ) hc (hg _ _ _ _ _) (hf _ _ _ _ _) (he _ _ _ _ _) T hfp hst turn (fun σ' H' s' I' q=>?_) I0 t1 (λ b hb=>?_) w0
  ·obtain⟨m,hn,_⟩:=I'.loc
   have hn':s'.heap.Ns H2.objs.size m:=hn
   obtain⟨oC,es,ep,ho,hr⟩:=id hn'
   exact fin _ _ oC H' s' hlt (inv_uncomp I hfp hlt I' ho) ho ⟨m,hn'⟩ q
  ·show upd H s.heap.objs.size (.lst []) b=none
   rw[upd_ne (Nat.ne_of_lt (hflt b hb))]
   exact (hfp b hb).1
 exact codeAny_compStart_list loop (T.self _ 0 _ _ _ t1 loop)
theorem pe_lc (S:CScope X N' pick scope) (hc:X.calm=true) (hi:PI X tg iter wi) (hg:∀ cl C s H fp,PG (cxC X N' scope cl C s H fp) tg g) (hf:∀ cl C s H fp,PF (cxC X N' scope cl C s H fp) ifs tc) (he:∀ cl C s H fp,PE (cxC X N' scope cl C s H fp) elt te)
  (hs:∀ x,foldedSetIterable iter X.env x=pure x:=by intro _;rfl):PE X (.ListComp elt [⟨tg,iter,ifs,0⟩] scope pos) (tLC pick wi g tc te):=by
 intro pins s σ H Q I h
 obtain⟨cl,hclos,c1,c2⟩:=closure_of (scope:=scope) (env:=X.env) λ y hy hk=>I.ok.has y.1 (S.free y hy hk)
 rw[eval_ListComp]
 refine wpAny_comprehension_free (use:=none) rfl hs hclos S.kind S.names (thn (hi pins s σ H _ I h) λ v s1 h1=>thn h1 λ itv s2 h2=>?_)
 obtain⟨it,fp,tn,J,H2,e,I2,T,st2,f2,rd⟩:=h2
 subst e
 refine lc_block (RR:=λ acc C=>compPost (model X.prog X.w) X.A X.xe none (EP X pins σ Q) acc C) S hc hg hf he c1 c2 I2 T st2 f2 rd λ C D oC H' s' hC J' ho hn q=>?_
 obtain⟨m,hn⟩:=hn
 exact⟨m,hn,λ h' hs'=>⟨.ref D,H',inv_letgo I2 hC J' hs',rfl,q⟩⟩
end
end L2
namespace L3
open PySem PySem.Spec L2
open PyProof.Rows hiding St
inductive D where
 | non | bl (b:Bool) | int (i:Int) | str (x:Str) | tup (ds:List D) | rol (ds:List D) | ref (a:Addr) | err (c f:Str) (d:D)
def SqF (K:PySem.W.Frag) (H:Hp) (a:Addr) (xs:List V):Prop:=
 (∃ o,H a=some (.frz o (.lst xs)))\/
  ∃ (o:Obj) (its:Array Value) (n:Nat),K.lookup a=some o/\o.cls=.type "list"/\o.dict=none/\o.data=.seq its n/\its.size<=sizeLine/\Vals xs its.toList
theorem SqF.sq {K:PySem.W.Frag}{H:Hp}{a:Addr}{xs:List V}(h:SqF K H a xs):SqL K H a xs:=by
 rcases h with h | h
 ·exact .inl (.inr h)
 ·exact .inr h
abbrev bmV:List Value:=[.type "ValueError",.type "Exception",.type "BaseException",.type "object"]
abbrev noNm:List Str:=["__getattribute__","__getattr__","__class__","__setattr__","place","pair","way","times","told","name","row"]
def OwnC (K:PySem.W.Frag) (c:Str) (C:Addr) (bm:List Value) (N:Addr):Prop:=
 (∃ (q:Str) (bs:List Value) (sn:List Str) (sub:List Value) (ab:Bool) (col:Option Bool) (dd:Option Addr) (k0 k1 k2 k3 k5:Option Value),K.lookup C=some (excClassObj c q C N bs bm true sn sub ab col dd k0 k1 k2 k3 k5 "ValueError.__new__"))/\
 PySem.W.nsOkIn K N=true/\∀ n∈noNm,PySem.W.nsIn K N n=some none
structure ErrN (K:PySem.W.Frag) (c:Str) (C P N NP:Addr):Prop where
 own:OwnC K c C (.ref P::bmV) N
 par:OwnC K "PurseError" P bmV NP
 top:PySem.W.nsIn K mainGlobals c=some (some (.ref C))
 ptop:PySem.W.nsIn K mainGlobals "PurseError"=some (some (.ref P))
 pini:PySem.W.nsIn K NP "__init__"=some none
def ErrC (K:PySem.W.Frag) (c:Str) (C:Addr):Prop:=∃ P N NP,ErrN K c C P N NP
noncomputable def ownIn (K:PySem.W.Frag) (c:Str) (C:Addr) (bm:List Value):Option Addr:=match K.lookup C with
 | some ⟨.type "type",_,.cls cd,sl⟩=>(match cd.mro,sl.toList with
  | .ref C'::bm',[_,_,_,_,some (.builtin n),_]=>if C' == C&&n == "ValueError.__new__"&&!cd.hasDel&&bm' == bm&&cd.hasDict&&cd.name == c&&PySem.W.nsOkIn K cd.ns&&noNm.all (λ n=>PySem.W.nsIn K cd.ns n == some none) then some cd.ns else none
  | _,_=>none)
 | _=>none
theorem ownc_of {K:PySem.W.Frag}{c:Str}{C N:Addr}{bm:List Value}(h:ownIn K c C bm=some N):OwnC K c C bm N:=by
 unfold ownIn at h
 split at h
 ·rename_i dd cd sl ho
  split at h
  ·rename_i C' bm' k0 k1 k2 k3 n k5 hm hs
   split at h
   ·rename_i hc
    cases h
    simp only[Bool.and_eq_true,beq_iff_eq,Bool.not_eq_true',List.all_eq_true] at hc
    obtain⟨⟨⟨⟨⟨⟨⟨rfl,rfl⟩,hdel⟩,rfl⟩,hhd⟩,rfl⟩,hok⟩,hn⟩:=hc
    obtain⟨nm,bs,mro,ns,qn,hd,sn,sub,ab,col,del⟩:=cd
    dsimp only at hm hdel hok hn hhd
    subst hm hdel hhd
    have hsl:sl=#[k0,k1,k2,k3,some (.builtin "ValueError.__new__"),k5]:=by
     obtain⟨l⟩:=sl
     simp only at hs
     rw[hs]
    subst hsl
    exact⟨⟨qn,bs,sn,sub,ab,col,dd,k0,k1,k2,k3,k5,ho⟩,hok,hn⟩
   ·cases h
  ·cases h
 ·cases h
noncomputable def errIn (K:PySem.W.Frag) (c:Str):Option (Addr×Addr×Addr×Addr):=match PySem.W.nsIn K mainGlobals c,PySem.W.nsIn K mainGlobals "PurseError" with
 | some (some (.ref C)),some (some (.ref P))=>(match ownIn K c C (.ref P::bmV),ownIn K "PurseError" P bmV with
  | some N,some NP=>if PySem.W.nsIn K NP "__init__" == some none then some (C,P,N,NP) else none
  | _,_=>none)
 | _,_=>none
theorem errn_of {K:PySem.W.Frag}{c:Str}{C P N NP:Addr}(h:errIn K c=some (C,P,N,NP)):ErrN K c C P N NP:=by
 unfold errIn at h
 split at h
 ·rename_i h1 h2
  split at h
  ·rename_i h3 h4
   split at h
   ·rename_i h5
    cases h
    exact⟨ownc_of h3,ownc_of h4,h1,h2,beq_iff_eq.mp h5⟩
   ·cases h
  ·cases h
 ·cases h
noncomputable def ErrO (e C dx:Addr):HO:=.ext λ h=>∃ oe vs,h.get? e=some oe/\oe.cls=.ref C/\oe.dict=some dx/\oe.data=.fields vs
mutual
noncomputable def RepD (K:PySem.W.Frag) (H:Hp):D->V->Prop
 | .non,v=>v=.non
 | .bl b,v=>v=.bl b
 | .int i,v=>v=.int i
 | .str x,v=>v=.str x
 | .tup ds,v=>∃ a xs,v=.ref a/\SqT K H a xs/\RepDs K H ds xs
 | .rol ds,v=>∃ a xs,v=.ref a/\SqF K H a xs/\RepDs K H ds xs
 | .ref a,v=>v=.ref a
 | .err c f d,v=>∃ e C dx w,v=.ref e/\(ErrC K c C/\H e=some (ErrO e C dx)/\H dx=some (.xd [(f,w)]))/\RepD K H d w
noncomputable def RepDs (K:PySem.W.Frag) (H:Hp):List D->List V->Prop
 | [],xs=>xs=[]
 | d::ds,xs=>∃ x r,xs=x::r/\RepD K H d x/\RepDs K H ds r
end
structure Ext (H H':Hp):Prop where
 tup:∀ b xs,H b=some (.tup xs)->H' b=some (.tup xs)
 frz:∀ b o u,H b=some (.frz o u)->H' b=some (.frz o u)
 ext:∀ b φ,H b=some (.ext φ)->H' b=some (.ext φ)
 xd:∀ b fs,H b=some (.xd fs)->H' b=some (.xd fs)
theorem Ext.refl (H:Hp):Ext H H:=⟨λ _ _ h=>h,λ _ _ _ h=>h,λ _ _ h=>h,λ _ _ h=>h⟩
theorem Ext.trans {H H1 H2:Hp}(a:Ext H H1) (b:Ext H1 H2):Ext H H2:=⟨λ c xs h=>b.tup c xs (a.tup c xs h),λ c o u h=>b.frz c o u (a.frz c o u h),λ c u h=>b.ext c u (a.ext c u h),λ c u h=>b.xd c u (a.xd c u h)⟩
theorem Ext.new {H:Hp}{p:Addr}(h:H p=none) (o:HO):Ext H (upd H p o):=
 ⟨λ b xs q=>by rw[upd_ne (ne_of_none q h)];exact q,λ b ob u q=>by rw[upd_ne (ne_of_none q h)];exact q,λ b u q=>by rw[upd_ne (ne_of_none q h)];exact q,λ b u q=>by rw[upd_ne (ne_of_none q h)];exact q⟩
theorem Ext.lst {H:Hp}{p:Addr}{xs:List V}(h:H p=some (.lst xs)) (o:HO):Ext H (upd H p o):=
 ⟨λ b ys q=>by rw[upd_ne (ne_of q h (by intro z;cases z))];exact q,λ b ob u q=>by rw[upd_ne (ne_of q h (by intro z;cases z))];exact q,λ b u q=>by rw[upd_ne (ne_of q h (by intro z;cases z))];exact q,λ b u q=>by rw[upd_ne (ne_of q h (by intro z;cases z))];exact q⟩
theorem Ext.sqt {K:PySem.W.Frag}{H H':Hp}{a:Addr}{xs:List V}(e:Ext H H') (h:SqT K H a xs):SqT K H' a xs:=by
 rcases h with (h | ⟨o,h⟩) | h
 ·exact .inl (.inl (e.tup _ _ h))
 ·exact .inl (.inr ⟨o,e.frz _ _ _ h⟩)
 ·exact .inr h
theorem Ext.sqf {K:PySem.W.Frag}{H H':Hp}{a:Addr}{xs:List V}(e:Ext H H') (h:SqF K H a xs):SqF K H' a xs:=by
 rcases h with ⟨o,h⟩ | h
 ·exact .inl ⟨o,e.frz _ _ _ h⟩
 ·exact .inr h
section
variable {K:PySem.W.Frag}{H H':Hp}
mutual
theorem RepD.ext (e:Ext H H'):∀ (d:D) {v:V},RepD K H d v->RepD K H' d v
 | .non,v,h=>by simpa only [RepD] using h
 | .bl b,v,h=>by simpa only [RepD] using h
 | .int i,v,h=>by simpa only [RepD] using h
 | .str x,v,h=>by simpa only [RepD] using h
 | .ref a,v,h=>by simpa only [RepD] using h
 | .err c f d,v,h=>by
  simp only[RepD] at h ⊢
  obtain⟨a,C,dx,w,h1,⟨h2,h3,h4⟩,h5⟩:=h
  exact⟨a,C,dx,w,h1,⟨h2,e.ext _ _ h3,e.xd _ _ h4⟩,RepD.ext e d h5⟩
 | .tup ds,v,h=>by
  simp only[RepD] at h ⊢
  obtain⟨a,xs,h1,h2,h3⟩:=h
  exact⟨a,xs,h1,e.sqt h2,RepDs.ext e ds h3⟩
 | .rol ds,v,h=>by
  simp only[RepD] at h ⊢
  obtain⟨a,xs,h1,h2,h3⟩:=h
  exact⟨a,xs,h1,e.sqf h2,RepDs.ext e ds h3⟩
theorem RepDs.ext (e:Ext H H'):∀ (ds:List D) {xs:List V},RepDs K H ds xs->RepDs K H' ds xs
 | [],xs,h=>by simpa only [RepDs] using h
 | d::ds,xs,h=>by
  simp only[RepDs] at h ⊢
  obtain⟨x,r,h1,h2,h3⟩:=h
  exact⟨x,r,h1,RepD.ext e d h2,RepDs.ext e ds h3⟩
end
theorem RepDs.length:∀ {ds:List D}{xs:List V},RepDs K H ds xs->ds.length=xs.length
 | [],xs,h=>by simp only[RepDs] at h;subst h;rfl
 | d::ds,xs,h=>by
  simp only[RepDs] at h
  obtain⟨x,r,h1,_,h3⟩:=h
  subst h1
  simp[RepDs.length h3]
theorem RepDs.get:∀ {ds:List D}{xs:List V}{i:Nat}{d:D},RepDs K H ds xs->ds[i]?=some d->∃ x,xs[i]?=some x/\RepD K H d x
 | [],_,i,d,_,e=>by simp at e
 | c::ds,xs,i,d,h,e=>by
  simp only[RepDs] at h
  obtain⟨x,r,h1,h2,h3⟩:=h
  subst h1
  cases i with
  | zero=>simp at e;subst e;exact⟨x,rfl,h2⟩
  | succ i=>
   obtain⟨y,e1,e2⟩:=RepDs.get (i:=i) h3 (by simpa using e)
   exact⟨y,by simpa using e1,e2⟩
theorem RepDs.append:∀ {ds es:List D}{xs ys:List V},RepDs K H ds xs->RepDs K H es ys->RepDs K H (ds++es) (xs++ys)
 | [],es,xs,ys,h,h'=>by simp only[RepDs] at h;subst h;simpa using h'
 | d::ds,es,xs,ys,h,h'=>by
  simp only[RepDs] at h
  obtain⟨x,r,h1,h2,h3⟩:=h
  subst h1
  show RepDs K H (d::(ds++es)) (x::(r++ys))
  simp only[RepDs]
  exact⟨x,r++ys,rfl,h2,RepDs.append h3 h'⟩
theorem RepDs.nil:RepDs K H [] []:=by simp only[RepDs]
theorem RepDs.cons {d:D}{ds:List D}{x:V}{xs:List V}(h:RepD K H d x) (h':RepDs K H ds xs):RepDs K H (d::ds) (x::xs):=by
 simp only[RepDs];exact⟨x,xs,rfl,h,h'⟩
theorem RepDs.snoc {d:D}{ds:List D}{x:V}{xs:List V}(h':RepDs K H ds xs) (h:RepD K H d x):RepDs K H (ds++[d]) (xs++[x]):=h'.append (.cons h .nil)
theorem RepDs.ints:∀ {ns:List Int}{xs:List V},RepDs K H (ns.map D.int) xs->xs=ns.map V.int
 | [],xs,h=>by simpa only [List.map_nil,RepDs] using h
 | n::ns,xs,h=>by
  rw[List.map_cons] at h
  simp only[RepDs,RepD] at h
  obtain⟨x,r,h1,h2,h3⟩:=h
  subst h1 h2
  rw[List.map_cons,RepDs.ints h3]
theorem RepDs.of_ints:∀ (ns:List Int),RepDs K H (ns.map D.int) (ns.map V.int)
 | []=>.nil
 | n::ns=>.cons (by simp only[RepD]) (RepDs.of_ints ns)
theorem RepDs.bools:∀ {ns:List Bool}{xs:List V},RepDs K H (ns.map D.bl) xs->xs=ns.map V.bl
 | [],xs,h=>by simpa only [List.map_nil,RepDs] using h
 | n::ns,xs,h=>by
  rw[List.map_cons] at h
  simp only[RepDs,RepD] at h
  obtain⟨x,r,h1,h2,h3⟩:=h
  subst h1 h2
  rw[List.map_cons,RepDs.bools h3]
end
inductive O where
 | lst (ds:List D)
 | dct (kvs:List (Key×D))
abbrev SS:=Addr->Option O
def RepKV (K:PySem.W.Frag) (H:Hp):List (Key×D)->List (Key×V)->Prop:=Paired λ p q=>p.1=q.1/\RepD K H p.2 q.2
noncomputable def RepO (K:PySem.W.Frag) (H:Hp) (a:Addr):O->Prop
 | .lst ds=>∃ xs,H a=some (.lst xs)/\RepDs K H ds xs
 | .dct kvs=>∃ vs,H a=some (.dK vs)/\RepKV K H kvs vs
def RepH (K:PySem.W.Frag) (H:Hp) (S:SS):Prop:=∀ a o,S a=some o->RepO K H a o
noncomputable def ups (S:SS) (a:Addr) (o:O):SS:=λ b=>if b=a then some o else S b
theorem ups_same {S:SS}{a:Addr}{o:O}:ups S a o a=some o:=by unfold ups;rw[if_pos rfl]
theorem ups_ne {S:SS}{a b:Addr}{o:O}(h:b≠a):ups S a o b=S b:=by unfold ups;rw[if_neg h]
def Sx (S S':SS):Prop:=∀ b o,S b=some o->S' b=some o
theorem Sx.refl (S:SS):Sx S S:=λ _ _ h=>h
theorem Sx.trans {S S1 S2:SS}(a:Sx S S1) (b:Sx S1 S2):Sx S S2:=λ c o h=>b c o (a c o h)
theorem Sx.new {S:SS}{p:Addr}(h:S p=none) (o:O):Sx S (ups S p o):=λ b u q=>by
 rw[ups_ne (by intro z;subst z;rw[h] at q;cases q)];exact q
theorem Sx.none {S S':SS}(e:Sx S S') {p:Addr}(h:S' p=Option.none):S p=Option.none:=by
 cases q:S p with
 | none=>rfl
 | some o=>rw[e p o q] at h;cases h
section
variable {K:PySem.W.Frag}{H H':Hp}{S:SS}
theorem RepO.has {a:Addr}{o:O}(h:RepO K H a o):H a≠none:=by
 cases o with
 | lst ds=>obtain⟨xs,h,_⟩:=h;rw[h];simp
 | dct kvs=>obtain⟨xs,h,_⟩:=h;rw[h];simp
theorem RepH.none (r:RepH K H S) {p:Addr}(h:H p=Option.none):S p=Option.none:=by
 cases q:S p with
 | none=>rfl
 | some o=>exact absurd h (r p o q).has
theorem RepKV.ext (e:Ext H H') {kvs:List (Key×D)}{vs:List (Key×V)}(h:RepKV K H kvs vs):RepKV K H' kvs vs:=
 Paired.mapP h λ p q z=>⟨z.1,RepD.ext e p.2 z.2⟩
theorem RepO.keep {a:Addr}{o:O}(e:Ext H H') (k:∀ u,H a=some u->H' a=some u) (h:RepO K H a o):RepO K H' a o:=by
 cases o with
 | lst ds=>obtain⟨xs,h1,h2⟩:=h;exact⟨xs,k _ h1,RepDs.ext e ds h2⟩
 | dct kvs=>obtain⟨xs,h1,h2⟩:=h;exact⟨xs,k _ h1,h2.ext e⟩
theorem RepH.keep (e:Ext H H') (k:∀ a u o,S a=some o->H a=some u->H' a=some u) (r:RepH K H S):RepH K H' S:=λ a o h=>(r a o h).keep e λ u q=>k a u o h q
theorem RepH.same (e:Same H H') (r:RepH K H S):RepH K H' S:=r.keep ⟨λ b xs q=>e _ _ q,λ b o u q=>e _ _ q,λ b u q=>e _ _ q,λ b u q=>e _ _ q⟩ λ a u _ _ q=>e a u q
theorem RepH.new {p:Addr}{u:HO}(hp:H p=Option.none) (r:RepH K H S):RepH K (upd H p u) S:=
 r.keep (Ext.new hp u) λ a v o _ q=>by rw[upd_ne (ne_of_none q hp)];exact q
theorem RepH.ups {p:Addr}{u:HO}{o:O}(e:Ext H (upd H p u)) (hn:RepO K (upd H p u) p o) (r:RepH K H S):RepH K (upd H p u) (ups S p o):=λ a o' h=>by
 by_cases ha:a=p
 ·subst ha;rw[ups_same] at h;cases h;exact hn
 ·rw[ups_ne ha] at h
  exact (r a o' h).keep e λ v q=>by rw[upd_ne ha];exact q
end
abbrev StD:=List (Option D)
def RepSt (K:PySem.W.Frag) (H:Hp) (δ:StD) (σ:St):Prop:=δ.length=σ.length/\∀ (i:Nat) (d:D),δ[i]?=some (some d)->∃ v,σ[i]?=some (some v)/\RepD K H d v
theorem RepSt.ext {K:PySem.W.Frag}{H H':Hp}{δ:StD}{σ:St}(e:Ext H H') (r:RepSt K H δ σ):RepSt K H' δ σ:=⟨r.1,λ i d h=>by
 obtain⟨v,h1,h2⟩:=r.2 i d h
 exact⟨v,h1,RepD.ext e d h2⟩⟩
theorem RepSt.set {K:PySem.W.Frag}{H:Hp}{δ:StD}{σ:St}(i:Nat) {d:D}{v:V}(r:RepSt K H δ σ) (h:RepD K H d v):RepSt K H (δ.set i (some d)) (σ.set i (some v)):=by
 refine⟨by rw[List.length_set,List.length_set];exact r.1,λ j c hc=>?_⟩
 rw[List.getElem?_set] at hc ⊢
 by_cases hj:i=j
 ·subst hj
  rw[if_pos rfl] at hc ⊢
  by_cases hl:i < δ.length
  ·rw[if_pos hl] at hc
   rw[if_pos (by rw[<- r.1];exact hl)]
   cases hc
   exact⟨v,rfl,h⟩
  ·rw[if_neg hl] at hc;cases hc
 ·rw[if_neg hj] at hc ⊢
  exact r.2 j c hc
abbrev DK:=D->SS->Prop
abbrev TDE:=StD->SS->DK->Prop
abbrev TDT:=StD->SS->(Bool->SS->Prop)->Prop
abbrev TDA:=StD->SS->(List D->SS->Prop)->Prop
def MoE (t:TDE):Prop:=∀ δ S (Q Q':DK),(∀ d S',Q d S'->Q' d S')->t δ S Q->t δ S Q'
def MoT (t:TDT):Prop:=∀ δ S (Q Q':Bool->SS->Prop),(∀ d S',Q d S'->Q' d S')->t δ S Q->t δ S Q'
def MoA (t:TDA):Prop:=∀ δ S (Q Q':List D->SS->Prop),(∀ d S',Q d S'->Q' d S')->t δ S Q->t δ S Q'
noncomputable def dnK (K:PySem.W.Frag) (H:Hp) (Q:VK):DK:=λ d S'=>∀ v H',RepD K H' d v->Ext H H'->RepH K H' S'->Q v H'
def dnB (K:PySem.W.Frag) (H:Hp) (Q:Bool->Hp->Prop):Bool->SS->Prop:=λ b S'=>∀ H',Ext H H'->RepH K H' S'->Q b H'
def dnL (K:PySem.W.Frag) (H:Hp) (Q:List V->Hp->Prop):List D->SS->Prop:=λ ds S'=>∀ vs H',RepDs K H' ds vs->Ext H H'->RepH K H' S'->Q vs H'
def dnS (K:PySem.W.Frag) (H:Hp) (Q:St->Hp->Prop):StD->SS->Prop:=fun δ S'=>∀ σ H',RepSt K H' δ σ->Ext H H'->RepH K H' S'->Q σ H'
theorem dnK.ext {K:PySem.W.Frag}{H H':Hp}{Q:VK}(e:Ext H H') {d:D}{S:SS}(h:dnK K H Q d S):dnK K H' Q d S:=λ v H2 r x q=>h v H2 r (e.trans x) q
theorem dnB.ext {K:PySem.W.Frag}{H H':Hp}{Q:Bool->Hp->Prop}(e:Ext H H') {d:Bool}{S:SS}(h:dnB K H Q d S):dnB K H' Q d S:=λ H2 x q=>h H2 (e.trans x) q
theorem dnS.ext {K:PySem.W.Frag}{H H':Hp}{Q:St->Hp->Prop}(e:Ext H H') {d:StD}{S:SS}(h:dnS K H Q d S):dnS K H' Q d S:=λ v H2 r x q=>h v H2 r (e.trans x) q
def upE (K:PySem.W.Frag) (t:TDE):TE:=fun σ H Q=>∃ δ S,RepSt K H δ σ/\RepH K H S/\t δ S (dnK K H Q)
def upT (K:PySem.W.Frag) (t:TDT):TT:=fun σ H Q=>∃ δ S,RepSt K H δ σ/\RepH K H S/\t δ S (dnB K H Q)
def upA (K:PySem.W.Frag) (t:TDA):TA:=fun σ H Q=>∃ δ S,RepSt K H δ σ/\RepH K H S/\t δ S (dnL K H Q)
structure PD (X:Cx) (e:Expr) (t:TDE):Prop where
 mo:MoE t
 pe:PE X e (upE X.K t)
structure PDT (X:Cx) (e:Expr) (t:TDT):Prop where
 mo:MoT t
 pt:PT X e (upT X.K t)
structure PDA (X:Cx) (es:List Expr) (t:TDA):Prop where
 mo:MoA t
 pa:PA X es (upA X.K t)
theorem PE.imp {X:Cx}{e:Expr}{t t':TE}(h:PE X e t) (hi:∀ σ H Q,t' σ H Q->t σ H Q):PE X e t':=λ pins s σ H Q I q=>h pins s σ H Q I (hi σ H Q q)
theorem PT.imp {X:Cx}{e:Expr}{t t':TT}(h:PT X e t) (hi:∀ σ H Q,t' σ H Q->t σ H Q):PT X e t':=λ pins s σ H Q I q=>h pins s σ H Q I (hi σ H Q q)
theorem PA.imp {X:Cx}{e:List Expr}{t t':TA}(h:PA X e t) (hi:∀ σ H Q,t' σ H Q->t σ H Q):PA X e t':=λ pos pins s σ H Q I q=>h pos pins s σ H Q I (hi σ H Q q)
theorem PS.imp {X:Cx}{e:Stmt}{t t':TS}(h:PS X e t) (hi:∀ D σ H,t' D σ H->t D σ H):PS X e t':=λ pins s σ H Q I q=>h pins s σ H Q I (hi Q σ H q)
theorem PSs.imp {X:Cx}{e:List Stmt}{t t':TS}(h:PSs X e t) (hi:∀ D σ H,t' D σ H->t D σ H):PSs X e t':=λ pins s σ H Q I q=>h pins s σ H Q I (hi Q σ H q)
section
variable {X:Cx}{K:PySem.W.Frag}
theorem upE.go {t:TDE}{σ:St}{H:Hp}{Q:VK}{δ:StD}{S:SS}{R:DK}(mo:MoE t) (r1:RepSt K H δ σ) (r2:RepH K H S) (h:t δ S R) (k:∀ d S' v H',R d S'->RepD K H' d v->Ext H H'->RepH K H' S'->Q v H'):upE K t σ H Q:=
 ⟨δ,S,r1,r2,mo δ S _ _ (λ d S' q v H' a b c=>k d S' v H' q a b c) h⟩
theorem upT.go {t:TDT}{σ:St}{H:Hp}{Q:Bool->Hp->Prop}{δ:StD}{S:SS}{R:Bool->SS->Prop}(mo:MoT t) (r1:RepSt K H δ σ) (r2:RepH K H S) (h:t δ S R) (k:∀ d S' H',R d S'->Ext H H'->RepH K H' S'->Q d H'):upT K t σ H Q:=
 ⟨δ,S,r1,r2,mo δ S _ _ (λ d S' q H' b c=>k d S' H' q b c) h⟩
theorem upA.go {t:TDA}{σ:St}{H:Hp}{Q:List V->Hp->Prop}{δ:StD}{S:SS}{R:List D->SS->Prop}(mo:MoA t) (r1:RepSt K H δ σ) (r2:RepH K H S) (h:t δ S R) (k:∀ d S' v H',R d S'->RepDs K H' d v->Ext H H'->RepH K H' S'->Q v H'):upA K t σ H Q:=
 ⟨δ,S,r1,r2,mo δ S _ _ (λ d S' q v H' a b c=>k d S' v H' q a b c) h⟩
def dVar (i:Nat):TDE:=fun δ S Q=>match δ[i]? with
 | some (some d)=>Q d S
 | _=>False
def dC (d:D):TDE:=λ _ S Q=>Q d S
theorem pd_var (i:Nat) {x:Str}{pos:Pos}(h:PE X (.Name x pos) (tVar i)):PD X (.Name x pos) (dVar i):=by
 refine⟨fun δ S Q Q' hq h=>?_,PE.imp h fun σ H Q hu=>?_⟩
 ·unfold dVar at h ⊢
  split at h
  ·exact hq _ _ h
  ·exact h
 ·obtain⟨δ,S,r1,r2,h⟩:=hu
  unfold dVar at h
  split at h
  ·rename_i d e
   obtain⟨v,h1,h2⟩:=r1.2 i d e
   exact⟨v,h1,h v H h2 (Ext.refl H) r2⟩
  ·exact h.elim
theorem dC.mo (d:D):MoE (dC d):=λ _ _ _ _ hq h=>hq _ _ h
theorem pd_const {e:Expr}{d:D}{v:V}(h:PE X e (tC v)) (r:∀ H,RepD X.K H d v):PD X e (dC d):=
 ⟨dC.mo d,PE.imp h λ _ H _ ⟨_,_,_,r2,h⟩=>h v H (r H) (Ext.refl H) r2⟩
theorem pd_int {i j pos}:PD X (.Constant (.int i) j pos) (dC (.int i)):=pd_const pe_int λ _=>by simp only[RepD]
theorem pd_bl {i j pos}:PD X (.Constant (.bool i) j pos) (dC (.bl i)):=pd_const pe_bl λ _=>by simp only[RepD]
theorem pd_non {j pos}:PD X (.Constant .none j pos) (dC .non):=pd_const pe_non λ _=>by simp only[RepD]
theorem pd_str {x j pos}:PD X (.Constant (.str x) j pos) (dC (.str x)):=pd_const pe_str λ _=>by simp only[RepD]
abbrev RD2:=D->D->SS->DK->Prop
def MoR (f:RD2):Prop:=∀ x y S (Q Q':DK),(∀ d S',Q d S'->Q' d S')->f x y S Q->f x y S Q'
def Fits2 (K:PySem.W.Frag) (f:RD2) (r:R2):Prop:=∀ x y d e H S Q,RepD K H d x->RepD K H e y->RepH K H S->f d e S (dnK K H Q)->r x y H Q
def dOp (f:RD2) (ta tb:TDE):TDE:=fun δ S Q=>ta δ S λ x S1=>tb δ S1 λ y S2=>f x y S2 Q
theorem dOp.mo {f:RD2}{ta tb:TDE}(hf:MoR f) (ha:MoE ta) (hb:MoE tb):MoE (dOp f ta tb):=fun δ S Q Q' hq h=>
 ha δ S _ _ (λ x S1 h=>hb δ S1 _ _ (λ y S2 h=>hf x y S2 _ _ hq h) h) h
theorem upOp {f:RD2}{r:R2}{ta tb:TDE}(hr:Fits2 K f r) (hf:MoR f) (ha:MoE ta) (hb:MoE tb) {σ:St}{H:Hp}{Q:VK}(h:upE K (dOp f ta tb) σ H Q):tOp r (upE K ta) (upE K tb) σ H Q:=by
 obtain⟨δ,S,r1,r2,h⟩:=h
 refine upE.go ha r1 r2 h λ x S1 v H1 h1 q1 e1 p1=>?_
 refine upE.go hb (r1.ext e1) p1 h1 λ y S2 w H2 h2 q2 e2 p2=>?_
 exact hr v w x y H2 S2 Q (RepD.ext e2 x q1) q2 p2 (hf x y S2 _ _ (λ d S' z=>z.ext (e1.trans e2)) h2)
theorem pd_op {a b:Expr}{op:Operator}{pos:Pos}{f:RD2}{r:R2}{ta tb:TDE}(ho:OpR X (binaryOp op) r) (hr:Fits2 X.K f r) (hf:MoR f) (ha:PD X a ta) (hb:PD X b tb):PD X (.BinOp a op b pos) (dOp f ta tb):=
 ⟨dOp.mo hf ha.mo hb.mo,PE.imp (pe_op ho ha.pe hb.pe) λ _ _ _ h=>upOp hr hf ha.mo hb.mo h⟩
theorem pd_cmp {a b:Expr}{op:CmpOp}{pos:Pos}{f:RD2}{r:R2}{ta tb:TDE}(ho:OpR X (compareOp op) r) (hr:Fits2 X.K f r) (hf:MoR f) (ha:PD X a ta) (hb:PD X b tb) (hm:behindInMarks op b=false):PD X (.Compare a [op] [b] pos) (dOp f ta tb):=
 ⟨dOp.mo hf ha.mo hb.mo,PE.imp (pe_cmpR ho ha.pe hb.pe hm) λ _ _ _ h=>upOp hr hf ha.mo hb.mo h⟩
def dTest (t:TDE):TDT:=fun δ S Q=>t δ S λ x S1=>match x with
 | .bl b=>Q b S1
 | _=>False
theorem dTest.mo {t:TDE}(h:MoE t):MoT (dTest t):=fun δ S Q Q' hq q=>h δ S _ _ (λ d S' z=>by
 cases d <;> first
  | exact hq _ _ z
  | exact z) q
theorem pdt_cmp {a b:Expr}{op:CmpOp}{pos:Pos}{f:RD2}{r:R2}{ta tb:TDE}(ho:OpR X (compareOp op) r) (hr:Fits2 X.K f r) (hf:MoR f) (ha:PD X a ta) (hb:PD X b tb) (hm:behindInMarks op b=false):PDT X (.Compare a [op] [b] pos) (dTest (dOp f ta tb)):=by
 refine⟨dTest.mo (dOp.mo hf ha.mo hb.mo),PT.imp (pt_cmpR ho ha.pe hb.pe hm) fun σ H Q h=>?_⟩
 obtain⟨δ,S,r1,r2,h⟩:=h
 refine upOp hr hf ha.mo hb.mo ⟨δ,S,r1,r2,dOp.mo hf ha.mo hb.mo δ S _ _ (λ d S' z v H' a b c=>?_) h⟩
 cases d with
 | bl k=>simp only[RepD] at a;exact⟨k,a,z H' b c⟩
 | non=>exact z.elim
 | int _=>exact z.elim
 | str _=>exact z.elim
 | err _ _ _=>exact z.elim
 | tup _=>exact z.elim
 | rol _=>exact z.elim
 | ref _=>exact z.elim
def fI (C:Int->Int->Prop) (g:Int->Int->D):RD2:=λ x y S Q=>match x,y with
 | .int i,.int j=>C i j/\Q (g i j) S
 | _,_=>False
theorem fI.mo {C:Int->Int->Prop}{g:Int->Int->D}:MoR (fI C g):=λ x y S Q Q' hq h=>by
 unfold fI at h ⊢
 split at h
 ·exact⟨h.1,hq _ _ h.2⟩
 ·exact h.elim
def fI0 (g:Int->Int->D):RD2:=λ x y S Q=>match x,y with
 | .int i,.int j=>Q (g i j) S
 | _,_=>False
theorem fI0.mo {g:Int->Int->D}:MoR (fI0 g):=λ x y S Q Q' hq h=>by
 unfold fI0 at h ⊢
 split at h
 ·exact hq _ _ h
 ·exact h.elim
theorem fI.fits {C:Int->Int->Prop}{g:Int->Int->D}{g':Int->Int->V}(hg:∀ i j H,RepD K H (g i j) (g' i j)):Fits2 K (fI C g) (rI C g'):=λ x y d e H S Q h1 h2 h3 h=>by
 unfold fI at h
 split at h
 ·simp only[RepD] at h1 h2
  exact⟨_,_,h1,h2,h.1,h.2 _ H (hg _ _ H) (Ext.refl H) h3⟩
 ·exact h.elim
theorem fI0.fits {g:Int->Int->D}{g':Int->Int->V}(hg:∀ i j H,RepD K H (g i j) (g' i j)):Fits2 K (fI0 g) (rI0 g'):=λ x y d e H S Q h1 h2 h3 h=>by
 unfold fI0 at h
 split at h
 ·simp only[RepD] at h1 h2
  exact⟨_,_,h1,h2,h _ H (hg _ _ H) (Ext.refl H) h3⟩
 ·exact h.elim
variable {a b c:Expr}{ta tb tc:TDE}{pos:Pos}
theorem pd_sub (ha:PD X a ta) (hb:PD X b tb):PD X (.BinOp a .Sub b pos) (dOp (fI0 λ i j=>.int (i-j)) ta tb):=pd_op op_sub (fI0.fits λ _ _ _=>by simp only[RepD]) fI0.mo ha hb
theorem pd_mod (ha:PD X a ta) (hb:PD X b tb):PD X (.BinOp a .Mod b pos) (dOp (fI (λ _ j=>0<j) λ i j=>.int (i%j)) ta tb):=pd_op op_mod (fI.fits λ _ _ _=>by simp only[RepD]) fI.mo ha hb
theorem pd_fdiv (ha:PD X a ta) (hb:PD X b tb):PD X (.BinOp a .FloorDiv b pos) (dOp (fI CDiv λ i j=>.int (i/j)) ta tb):=pd_op op_fdiv (fI.fits λ _ _ _=>by simp only[RepD]) fI.mo ha hb
theorem pd_pow (ha:PD X a ta) (hb:PD X b tb):PD X (.BinOp a .Pow b pos) (dOp (fI CPow λ i j=>.int (i ^ j.toNat)) ta tb):=pd_op op_pow (fI.fits λ _ _ _=>by simp only[RepD]) fI.mo ha hb
theorem pd_shr (ha:PD X a ta) (hb:PD X b tb):PD X (.BinOp a .RShift b pos) (dOp (fI (λ _ j=>0<=j) λ i j=>.int (i/2 ^ j.toNat)) ta tb):=pd_op op_shr (fI.fits λ _ _ _=>by simp only[RepD]) fI.mo ha hb
theorem pd_band (ha:PD X a ta) (hb:PD X b tb):PD X (.BinOp a .BitAnd b pos) (dOp (fI0 λ i j=>.int (Builtin.bitAnd i j)) ta tb):=pd_op op_and (fI0.fits λ _ _ _=>by simp only[RepD]) fI0.mo ha hb
abbrev fLe:RD2:=fI0 λ i j=>.bl (decide (i<=j))
abbrev fGt:RD2:=fI0 λ i j=>.bl (decide (j<i))
abbrev fGe:RD2:=fI0 λ i j=>.bl (decide (j<=i))
theorem fit_le:Fits2 K fLe (rI0 λ i j=>.bl (decide (i<=j))):=fI0.fits λ _ _ _=>by simp only[RepD]
theorem fit_gt:Fits2 K fGt (rI0 λ i j=>.bl (decide (j<i))):=fI0.fits λ _ _ _=>by simp only[RepD]
theorem fit_ge:Fits2 K fGe (rI0 λ i j=>.bl (decide (j<=i))):=fI0.fits λ _ _ _=>by simp only[RepD]
theorem pd_ge (ha:PD X a ta) (hb:PD X b tb):PD X (.Compare a [.GtE] [b] pos) (dOp fGe ta tb):=pd_cmp op_ge fit_ge fI0.mo ha hb (nomark _)
theorem pdt_gt (ha:PD X a ta) (hb:PD X b tb):PDT X (.Compare a [.Gt] [b] pos) (dTest (dOp fGt ta tb)):=pdt_cmp op_gt fit_gt fI0.mo ha hb (nomark _)
end
end L3
namespace L3
open PySem PySem.Spec L2
open PyProof.Rows hiding St
section
variable {X:Cx}{K:PySem.W.Frag}{a b c:Expr}{ta tb tc:TDE}{pos:Pos}
def dAnd (ta tb:TDE):TDE:=fun δ S Q=>ta δ S λ x S1=>match x with
 | .bl k=>if k=true then tb δ S1 Q else Q (.bl false) S1
 | _=>False
def dNot (ta:TDE):TDE:=fun δ S Q=>ta δ S λ x S1=>match x with
 | .bl k=>Q (.bl (!k)) S1
 | _=>False
theorem ite_imp {c:Prop} [Decidable c] {A B A' B':Prop}(h1:A->A') (h2:B->B') (h:if c then A else B):if c then A' else B':=by
 by_cases q:c
 ·rw[if_pos q] at h ⊢;exact h1 h
 ·rw[if_neg q] at h ⊢;exact h2 h
theorem dAnd.mo (ha:MoE ta) (hb:MoE tb):MoE (dAnd ta tb):=fun δ S Q Q' hq h=>ha δ S _ _ (λ x S1 z=>by
 cases x <;> first
  | exact ite_imp (hb δ S1 _ _ hq) (hq _ _) z
  | exact z) h
theorem dNot.mo (ha:MoE ta):MoE (dNot ta):=fun δ S Q Q' hq h=>ha δ S _ _ (λ x S1 z=>by
 cases x <;> first
  | exact hq _ _ z
  | exact z) h
theorem pd_one {op} {t:TDE}(h:PD X a t):PD X (.BoolOp op [a] pos) t:=⟨h.mo,pe_one h.pe⟩
variable {rest:List Expr}
theorem pd_and (ha:PD X a ta) (hb:PD X (.BoolOp .And (b::rest) pos) tb):PD X (.BoolOp .And (a::b::rest) pos) (dAnd ta tb):=by
 refine⟨dAnd.mo ha.mo hb.mo,PE.imp (pe_and ha.pe hb.pe) fun σ H Q hu=>?_⟩
 obtain⟨δ,S,r1,r2,h⟩:=hu
 refine upE.go ha.mo r1 r2 h λ x S1 v H1 h1 q1 e1 p1=>?_
 cases x with
 | bl k=>
  simp only[RepD] at q1
  refine⟨k,q1,ite_imp (λ z=>?_) (λ z=>?_) h1⟩
  ·exact upE.go hb.mo (r1.ext e1) p1 z λ y S2 w H2 h2 q2 e2 p2=>h2 w H2 q2 (e1.trans e2) p2
  ·exact z _ H1 (by simp only[RepD]) e1 p1
 | non=>exact h1.elim
 | int _=>exact h1.elim
 | str _=>exact h1.elim
 | err _ _ _=>exact h1.elim
 | tup _=>exact h1.elim
 | rol _=>exact h1.elim
 | ref _=>exact h1.elim
theorem pd_not (ha:PD X a ta):PD X (.UnaryOp .Not a pos) (dNot ta):=by
 refine⟨dNot.mo ha.mo,PE.imp (pe_not ha.pe) fun σ H Q hu=>?_⟩
 obtain⟨δ,S,r1,r2,h⟩:=hu
 refine upE.go ha.mo r1 r2 h λ x S1 v H1 h1 q1 e1 p1=>?_
 cases x with
 | bl k=>
  simp only[RepD] at q1
  exact⟨k,q1,h1 _ H1 (by simp only[RepD]) e1 p1⟩
 | non=>exact h1.elim
 | int _=>exact h1.elim
 | str _=>exact h1.elim
 | err _ _ _=>exact h1.elim
 | tup _=>exact h1.elim
 | rol _=>exact h1.elim
 | ref _=>exact h1.elim
def eAnd (t u:TDT):TDT:=fun δ S Q=>t δ S λ k S1=>if k=true then u δ S1 Q else Q false S1
def eOr (t u:TDT):TDT:=fun δ S Q=>t δ S λ k S1=>if k=true then Q true S1 else u δ S1 Q
def eNot (t:TDT):TDT:=fun δ S Q=>t δ S λ k S1=>Q (!k) S1
variable {t u:TDT}
theorem eAnd.mo (h:MoT t) (h':MoT u):MoT (eAnd t u):=fun δ S _ _ hq z=>h δ S _ _ (λ k S1 z=>ite_imp (h' δ S1 _ _ hq) (hq _ _) z) z
theorem eOr.mo (h:MoT t) (h':MoT u):MoT (eOr t u):=fun δ S _ _ hq z=>h δ S _ _ (λ k S1 z=>ite_imp (hq _ _) (h' δ S1 _ _ hq) z) z
theorem eNot.mo (h:MoT t):MoT (eNot t):=fun δ S _ _ hq z=>h δ S _ _ (λ k S1 z=>hq _ _ z) z
structure PDW (X:Cx) (e:Expr) (t:TDT):Prop where
 mo:MoT t
 pw:PW X e (upT X.K t)
theorem PW.imp {e:Expr}{t t':TT}(h:PW X e t) (hi:∀ σ H Q,t' σ H Q->t σ H Q):PW X e t':=λ whole pins s σ H Q I q=>h whole pins s σ H Q I (hi σ H Q q)
theorem PDW.pt {e:Expr}{t:TDT}(h:PDW X e t):PDT X e t:=⟨h.mo,PW.pt h.pw⟩
theorem pdw_and1 (h:PDT X a t):PDW X (.BoolOp .And [a] pos) t:=⟨h.mo,pw_and1 h.pt⟩
theorem pdw_or1 (h:PDT X a t):PDW X (.BoolOp .Or [a] pos) t:=⟨h.mo,pw_or1 h.pt⟩
theorem pdw_and (ha:PDT X a t) (hb:PDW X (.BoolOp .And (b::rest) pos) u):PDW X (.BoolOp .And (a::b::rest) pos) (eAnd t u):=by
 refine⟨eAnd.mo ha.mo hb.mo,PW.imp (pw_and ha.pt hb.pw) fun σ H Q hu=>?_⟩
 obtain⟨δ,S,r1,r2,h⟩:=hu
 refine upT.go ha.mo r1 r2 h λ k S1 H1 h1 e1 p1=>ite_imp (λ z=>?_) (λ z=>z H1 e1 p1) h1
 exact upT.go hb.mo (r1.ext e1) p1 z λ y S2 H2 h2 e2 p2=>h2 H2 (e1.trans e2) p2
theorem pdw_or (ha:PDT X a t) (hb:PDW X (.BoolOp .Or (b::rest) pos) u):PDW X (.BoolOp .Or (a::b::rest) pos) (eOr t u):=by
 refine⟨eOr.mo ha.mo hb.mo,PW.imp (pw_or ha.pt hb.pw) fun σ H Q hu=>?_⟩
 obtain⟨δ,S,r1,r2,h⟩:=hu
 refine upT.go ha.mo r1 r2 h λ k S1 H1 h1 e1 p1=>ite_imp (λ z=>z H1 e1 p1) (λ z=>?_) h1
 exact upT.go hb.mo (r1.ext e1) p1 z λ y S2 H2 h2 e2 p2=>h2 H2 (e1.trans e2) p2
theorem pdt_not (ha:PDT X a t):PDT X (.UnaryOp .Not a pos) (eNot t):=by
 refine⟨eNot.mo ha.mo,PT.imp (pt_not ha.pt) fun σ H Q hu=>?_⟩
 obtain⟨δ,S,r1,r2,h⟩:=hu
 exact upT.go ha.mo r1 r2 h λ k S1 H1 h1 e1 p1=>h1 H1 e1 p1
def tru (d:D) (S:SS) (Q:Bool->SS->Prop):Prop:=match d with
 | .non=>Q false S
 | .bl k=>Q k S
 | .int i=>Q (i != 0) S
 | .str x=>x.length<=sizeLine/\Q ((x.length:Int) != 0) S
 | .tup ds=>Q (!ds.isEmpty) S
 | .rol ds=>Q (!ds.isEmpty) S
 | .ref p=>match S p with
  | some (.lst ds)=>Q (!ds.isEmpty) S
  | some (.dct kvs)=>Q (!kvs.isEmpty) S
  | none=>False
 | .err _ _ _=>False
def eTru (ta:TDE):TDT:=fun δ S Q=>ta δ S λ x S1=>tru x S1 Q
theorem tru.mo {d:D}{S:SS}{Q Q':Bool->SS->Prop}(hq:∀ k S',Q k S'->Q' k S') (h:tru d S Q):tru d S Q':=by
 cases d with
 | str x=>exact⟨h.1,hq _ _ h.2⟩
 | err _ _ _=>exact h.elim
 | ref p=>
  unfold tru at h ⊢
  dsimp only at h ⊢
  split at h
  ·exact hq _ _ h
  ·exact hq _ _ h
  ·exact h
 | _=>exact hq _ _ h
theorem RepDs.isEmpty {H:Hp}{ds:List D}{xs:List V}(h:RepDs K H ds xs):ds.isEmpty=xs.isEmpty:=by
 have:=h.length
 cases ds <;> cases xs <;> simp_all
theorem Paired_isEmpty {α β:Type}{F:α->β->Prop}{xs:List α}{ys:List β}(h:Paired F xs ys):xs.isEmpty=ys.isEmpty:=by cases h <;> rfl
theorem tru.fits {H:Hp}{d:D}{v:V}{S:SS}{Q:Bool->Hp->Prop}(r:RepD K H d v) (p:RepH K H S) (h:tru d S (dnB K H Q)):∃ k,TruV K v H k/\Q k H:=by
 cases d with
 | non=>simp only[RepD] at r;subst r;exact⟨false,rfl,h H (.refl H) p⟩
 | bl k=>simp only[RepD] at r;subst r;exact⟨k,rfl,h H (.refl H) p⟩
 | int i=>simp only[RepD] at r;subst r;exact⟨_,rfl,h H (.refl H) p⟩
 | str x=>simp only[RepD] at r;subst r;exact⟨_,⟨h.1,rfl⟩,h.2 H (.refl H) p⟩
 | err _ _ _=>exact h.elim
 | tup ds=>
  simp only[RepD] at r
  obtain⟨a,xs,rfl,r1,r2⟩:=r
  exact⟨_,.inr (.inl ⟨xs,r1,by rw[r2.isEmpty]⟩),h H (.refl H) p⟩
 | rol ds=>
  simp only[RepD] at r
  obtain⟨a,xs,rfl,r1,r2⟩:=r
  exact⟨_,.inl ⟨xs,r1.sq,by rw[r2.isEmpty]⟩,h H (.refl H) p⟩
 | ref a=>
  simp only[RepD] at r
  subst r
  unfold tru at h
  dsimp only at h
  split at h
  ·rename_i ds e
   obtain⟨xs,e1,r2⟩:=p a _ e
   exact⟨_,.inl ⟨xs,SqL.of e1,by rw[r2.isEmpty]⟩,h H (.refl H) p⟩
  ·rename_i kvs e
   obtain⟨xs,e1,r2⟩:=p a _ e
   exact⟨_,.inr (.inr ⟨xs,e1,by rw[Paired_isEmpty r2]⟩),h H (.refl H) p⟩
  ·exact h.elim
theorem pdt_tru (ha:PD X a ta) (he:∀ whole,isTrue a X.env whole=(do let v <- whole;standAt a.pos;holding [v] (truthy v)):=by intro _;rfl):PDT X a (eTru ta):=by
 refine⟨fun δ S Q Q' hq h=>ha.mo δ S _ _ (λ x S1 z=>tru.mo hq z) h,PT.imp (pt_truth ha.pe he) fun σ H Q hu=>?_⟩
 obtain⟨δ,S,r1,r2,h⟩:=hu
 refine upE.go ha.mo r1 r2 h λ x S1 v H1 h1 q1 e1 p1=>?_
 exact tru.fits q1 p1 (tru.mo (λ k S' z=>z.ext e1) h1)
def dNil:TDA:=λ _ S Q=>Q [] S
def dCons (te:TDE) (tr:TDA):TDA:=fun δ S Q=>te δ S λ x S1=>tr δ S1 λ xs S2=>Q (x::xs) S2
variable {e:Expr}{es:List Expr}{te:TDE}{tA:TDA}
theorem dCons.mo (h:MoE te) (h':MoA tA):MoA (dCons te tA):=fun δ S _ _ hq z=>h δ S _ _ (λ x S1 z=>h' δ S1 _ _ (λ xs S2 z=>hq _ _ z) z) z
theorem pda_nil:PDA X [] dNil:=⟨λ _ _ _ _ hq h=>hq _ _ h,PA.imp pa_nil fun σ H Q ⟨_,_,_,r2,h⟩=>h [] H .nil (.refl H) r2⟩
theorem pda_cons (ha:PD X e te) (hr:PDA X es tA) (hs:starEach (e::es) X.env=(false,eval e X.env)::starEach es X.env:=by rfl):PDA X (e::es) (dCons te tA):=by
 refine⟨dCons.mo ha.mo hr.mo,PA.imp (pa_cons ha.pe hr.pa hs) fun σ H Q hu=>?_⟩
 obtain⟨δ,S,r1,r2,h⟩:=hu
 refine upE.go ha.mo r1 r2 h λ x S1 v H1 h1 q1 e1 p1=>?_
 refine upA.go hr.mo (r1.ext e1) p1 h1 λ xs S2 w H2 h2 q2 e2 p2=>?_
 exact h2 (v::w) H2 (.cons (RepD.ext e2 x q1) q2) (e1.trans e2) p2
def dTup (t:TDA):TDE:=fun δ S Q=>t δ S λ ds S1=>ds.length<=sizeLine/\Q (.tup ds) S1
def dLst (t:TDA):TDE:=fun δ S Q=>t δ S λ ds S1=>ds.length<=sizeLine/\∀ p,S1 p=none->Q (.ref p) (ups S1 p (.lst ds))
theorem pd_tup {k} (h:PDA X es tA):PD X (.Tuple es k pos) (dTup tA):=by
 refine⟨fun δ S _ _ hq z=>h.mo δ S _ _ (λ ds S1 z=>⟨z.1,hq _ _ z.2⟩) z,PE.imp (pe_tup h.pa) fun σ H Q hu=>?_⟩
 obtain⟨δ,S,r1,r2,h'⟩:=hu
 refine upA.go h.mo r1 r2 h' λ ds S1 xs H1 h1 q1 e1 p1=>⟨by rw[<- q1.length];exact h1.1,λ p hp=>?_⟩
 refine h1.2 _ _ ?_ (e1.trans (.new hp _)) (p1.new hp)
 simp only[RepD]
 exact⟨p,xs,rfl,SqT.of upd_same,RepDs.ext (.new hp _) ds q1⟩
theorem pd_lst (h:PDA X es tA):PD X (.List es pos) (dLst tA):=by
 refine⟨fun δ S _ _ hq z=>h.mo δ S _ _ (λ ds S1 z=>⟨z.1,λ p hp=>hq _ _ (z.2 p hp)⟩) z,PE.imp (pe_lst h.pa) fun σ H Q hu=>?_⟩
 obtain⟨δ,S,r1,r2,h'⟩:=hu
 refine upA.go h.mo r1 r2 h' λ ds S1 xs H1 h1 q1 e1 p1=>⟨by rw[<- q1.length];exact h1.1,λ p hp=>?_⟩
 refine h1.2 p (p1.none hp) _ _ (by simp only[RepD]) (e1.trans (.new hp _)) ?_
 exact p1.ups (.new hp _) ⟨xs,upd_same,RepDs.ext (.new hp _) ds q1⟩
def fIx:RD2:=λ x y S Q=>match x,y with
 | .tup ds,.int i=>match atI ds i with
  | some d=>Q d S
  | none=>False
 | .rol ds,.int i=>match atI ds i with
  | some d=>Q d S
  | none=>False
 | .ref p,.int i=>match S p with
  | some (.lst ds)=>match atI ds i with
   | some d=>Q d S
   | none=>False
  | _=>False
 | _,_=>False
theorem fIx.mo:MoR fIx:=λ x y S Q Q' hq h=>by
 unfold fIx at h ⊢
 split at h
 ·skip
  split at h
  ·exact hq _ _ h
  ·exact h
 ·skip
  split at h
  ·exact hq _ _ h
  ·exact h
 ·skip
  split at h
  ·skip
   split at h
   ·exact hq _ _ h
   ·exact h
  ·exact h.elim
 ·exact h.elim
theorem RepDs.atI {H:Hp}{ds:List D}{xs:List V}{i:Int}{d:D}(h:RepDs K H ds xs) (e:L2.atI ds i=some d):∃ x,L2.atI xs i=some x/\RepD K H d x:=by
 unfold L2.atI at e ⊢
 rw[h.length] at e
 cases q:ixN xs.length i with
 | none=>rw[q] at e;cases e
 | some j=>
  rw[q] at e
  exact h.get e
theorem fIx.fits:Fits2 K fIx (rIx K):=λ x y d e H S Q h1 h2 h3 h=>by
 unfold fIx at h
 split at h
 ·split at h
  ·rename_i q
   simp only[RepD] at h1 h2
   obtain⟨a,xs,rfl,r1,r2⟩:=h1
   obtain⟨x',e1,e2⟩:=r2.atI q
   exact .inr (.inl ⟨a,xs,_,x',rfl,h2,r1,e1,h x' H e2 (.refl H) h3⟩)
  ·exact h.elim
 ·split at h
  ·rename_i q
   simp only[RepD] at h1 h2
   obtain⟨a,xs,rfl,r1,r2⟩:=h1
   obtain⟨x',e1,e2⟩:=r2.atI q
   exact .inl ⟨a,xs,_,x',rfl,h2,r1.sq,e1,h x' H e2 (.refl H) h3⟩
  ·exact h.elim
 ·split at h
  ·rename_i q0
   split at h
   ·rename_i q
    simp only[RepD] at h1 h2
    subst h1
    obtain⟨xs,r1,r2⟩:=h3 _ _ q0
    obtain⟨x',e1,e2⟩:=r2.atI q
    exact .inl ⟨_,xs,_,x',rfl,h2,SqL.of r1,e1,h x' H e2 (.refl H) h3⟩
   ·exact h.elim
  ·exact h.elim
 ·exact h.elim
theorem pd_ix (ha:PD X a ta) (hb:PD X b tb) (hs:PlainIx b:=by exact λ _ _=>rfl):PD X (.Subscript a b pos) (dOp fIx ta tb):=
 ⟨dOp.mo fIx.mo ha.mo hb.mo,PE.imp (pe_ix ix_seq ha.pe hb.pe hs) λ _ _ _ h=>upOp fIx.fits fIx.mo ha.mo hb.mo h⟩
abbrev RDn:=List D->SS->DK->Prop
def MoN (f:RDn):Prop:=∀ ds S (Q Q':DK),(∀ d S',Q d S'->Q' d S')->f ds S Q->f ds S Q'
def FitsN (K:PySem.W.Frag) (f:RDn) (r:List V->Hp->VK->Prop):Prop:=∀ xs ds H S Q,RepDs K H ds xs->RepH K H S->f ds S (dnK K H Q)->r xs H Q
def dCB (f:RDn) (t:TDA):TDE:=fun δ S Q=>t δ S λ ds S1=>f ds S1 Q
theorem dCB.mo {f:RDn}(hf:MoN f) (h:MoA tA):MoE (dCB f tA):=fun δ S _ _ hq z=>h δ S _ _ (λ ds S1 z=>hf ds S1 _ _ hq z) z
theorem upCB {f:RDn}{r:List V->Hp->VK->Prop}(hf:MoN f) (hr:FitsN K f r) (h:MoA tA) {σ:St}{H:Hp}{Q:VK}(hu:upE K (dCB f tA) σ H Q):tCB r (upA K tA) σ H Q:=by
 obtain⟨δ,S,r1,r2,h'⟩:=hu
 refine upA.go h r1 r2 h' λ ds S1 xs H1 h1 q1 e1 p1=>?_
 exact hr xs ds H1 S1 Q q1 p1 (hf ds S1 _ _ (λ d S' z=>z.ext e1) h1)
theorem pd_of_callB {f:RDn}{r:List V->Hp->VK->Prop}{e:Expr}(h:PE X e (tCB r (upA X.K tA))) (hf:MoN f) (hr:FitsN X.K f r) (ha:MoA tA):PD X e (dCB f tA):=
 ⟨dCB.mo hf ha,PE.imp h λ _ _ _ hu=>upCB hf hr ha hu⟩
noncomputable def seqOf (d:D) (S:SS):Option (List D):=match d with
 | .tup ds=>some ds
 | .rol ds=>some ds
 | .ref p=>match S p with
  | some (.lst ds)=>some ds
  | _=>none
 | _=>none
theorem seqOf.sq {H:Hp}{S:SS}{d:D}{v:V}{ds:List D}(r:RepD K H d v) (p:RepH K H S) (e:seqOf d S=some ds):∃ a xs,v=.ref a/\(SqL K H a xs\/SqT K H a xs)/\RepDs K H ds xs:=by
 unfold seqOf at e
 split at e
 ·cases e
  simp only[RepD] at r
  obtain⟨a,xs,h1,h2,h3⟩:=r
  exact⟨a,xs,h1,.inr h2,h3⟩
 ·cases e
  simp only[RepD] at r
  obtain⟨a,xs,h1,h2,h3⟩:=r
  exact⟨a,xs,h1,.inl h2.sq,h3⟩
 ·split at e
  ·rename_i q
   cases e
   simp only[RepD] at r
   subst r
   obtain⟨xs,h1,h2⟩:=p _ _ q
   exact⟨_,xs,rfl,.inl (SqL.of h1),h2⟩
  ·cases e
 ·cases e
theorem RepDs.one {H:Hp}{d:D}{xs:List V}(h:RepDs K H [d] xs):∃ x,xs=[x]/\RepD K H d x:=by
 simp only[RepDs] at h
 obtain⟨x,r,rfl,h2,rfl⟩:=h
 exact⟨x,rfl,h2⟩
theorem RepDs.two {H:Hp}{d d':D}{xs:List V}(h:RepDs K H [d,d'] xs):∃ x y,xs=[x,y]/\RepD K H d x/\RepD K H d' y:=by
 simp only[RepDs] at h
 obtain⟨x,r,rfl,h2,y,r',rfl,h3,rfl⟩:=h
 exact⟨x,y,rfl,h2,h3⟩
def fLen:RDn:=λ ds S Q=>match ds with
 | [d]=>match seqOf d S with
  | some ds=>Q (.int ds.length) S
  | none=>match d with
   | .str z=>z.length<=sizeLine/\Q (.int z.length) S
   | _=>False
 | _=>False
theorem fLen.mo:MoN fLen:=λ ds S Q Q' hq h=>by
 unfold fLen at h ⊢
 split at h
 ·skip
  split at h
  ·exact hq _ _ h
  ·split at h
   ·exact⟨h.1,hq _ _ h.2⟩
   ·exact h.elim
 ·exact h.elim
abbrev rLen (K:PySem.W.Frag):List V->Hp->VK->Prop:=λ xs H Q=>(∃ p ys,xs=[.ref p]/\(SqL K H p ys\/SqT K H p ys)/\Q (.int ys.length) H)\/(∃ z,xs=[.str z]/\z.length<=sizeLine/\Q (.int z.length) H)
theorem fLen.fits:FitsN K fLen (rLen K):=λ xs ds H S Q h0 h2 h=>by
 unfold fLen at h
 split at h
 ·obtain⟨x,hx,h1⟩:=h0.one;subst hx
  split at h
  ·rename_i e
   obtain⟨a,ys,rfl,q,r⟩:=seqOf.sq h1 h2 e
   refine .inl ⟨a,ys,rfl,q,?_⟩
   rw[<- r.length]
   exact h _ H (by simp only[RepD]) (.refl H) h2
  ·split at h
   ·simp only[RepD] at h1
    subst h1
    exact .inr ⟨_,rfl,h.1,h.2 _ H (by simp only[RepD]) (.refl H) h2⟩
   ·exact h.elim
 ·exact h.elim
def fTuple:RDn:=λ ds S Q=>match ds with
 | [.tup ds]=>Q (.tup ds) S
 | [.rol ds]=>Q (.tup ds) S
 | [.ref p]=>match S p with
  | some (.lst ds)=>Q (.tup ds) S
  | _=>False
 | _=>False
theorem fTuple.mo:MoN fTuple:=λ ds S Q Q' hq h=>by
 unfold fTuple at h ⊢
 split at h
 ·exact hq _ _ h
 ·exact hq _ _ h
 ·skip
  split at h
  ·exact hq _ _ h
  ·exact h.elim
 ·exact h.elim
theorem fTuple.fits:FitsN K fTuple (λ xs H Q=>∃ p ys,xs=[.ref p]/\((SqL K H p ys/\∀ l,H l=none->Q (.ref l) (upd H l (.tup ys)))\/(SqT K H p ys/\Q (.ref p) H))):=λ xs ds H S Q h0 h2 h=>by
 unfold fTuple at h
 split at h
 ·obtain⟨x,hx,h1⟩:=h0.one;subst hx
  have h1':=h1
  simp only[RepD] at h1
  obtain⟨a,xs,rfl,r1,r2⟩:=h1
  exact⟨a,xs,rfl,.inr ⟨r1,h _ H h1' (.refl H) h2⟩⟩
 ·obtain⟨x,hx,h1⟩:=h0.one;subst hx
  simp only[RepD] at h1
  obtain⟨a,xs,rfl,r1,r2⟩:=h1
  refine⟨a,xs,rfl,.inl ⟨r1.sq,λ l hl=>h _ _ ?_ (.new hl _) (h2.new hl)⟩⟩
  simp only[RepD]
  exact⟨l,xs,rfl,SqT.of upd_same,RepDs.ext (.new hl _) _ r2⟩
 ·obtain⟨x,hx,h1⟩:=h0.one;subst hx
  split at h
  ·rename_i e
   simp only[RepD] at h1
   subst h1
   obtain⟨xs,r1,r2⟩:=h2 _ _ e
   refine⟨_,xs,rfl,.inl ⟨SqL.of r1,λ l hl=>h _ _ ?_ (.new hl _) (h2.new hl)⟩⟩
   simp only[RepD]
   exact⟨l,xs,rfl,SqT.of upd_same,RepDs.ext (.new hl _) _ r2⟩
  ·exact h.elim
 ·exact h.elim
def fII (g:Int->Int->D):RDn:=λ ds S Q=>match ds with
 | [.int i,.int j]=>Q (g i j) S
 | _=>False
theorem fII.mo {g:Int->Int->D}:MoN (fII g):=λ ds S Q Q' hq h=>by
 unfold fII at h ⊢
 split at h
 ·exact hq _ _ h
 ·exact h.elim
theorem fII.fits {g:Int->Int->D}{g':Int->Int->V}(hg:∀ i j H,RepD K H (g i j) (g' i j)):FitsN K (fII g) (λ xs H Q=>∃ i j,xs=[.int i,.int j]/\Q (g' i j) H):=λ xs ds H S Q h0 h2 h=>by
 unfold fII at h
 split at h
 ·obtain⟨x,y,hx,h1,h3⟩:=h0.two;subst hx
  simp only[RepD] at h1 h3
  subst h1 h3
  exact⟨_,_,rfl,h _ H (hg _ _ H) (.refl H) h2⟩
 ·exact h.elim
def fCat:RD2:=λ x y S Q=>match x,y with
 | .ref p,.ref q=>match S p,S q with
  | some (.lst ds),some (.lst es)=>ds.length+es.length<=sizeLine/\∀ r,S r=none->Q (.ref r) (ups S r (.lst (ds++es)))
  | _,_=>False
 | _,_=>False
def dAppend (to te:TDE):TDE:=fun δ S Q=>to δ S λ x S1=>match x with
 | .ref p=>(∃ ds,S1 p=some (.lst ds))/\te δ S1 λ y S2=>match S2 p with
  | some (.lst ds)=>ds.length<sizeLine/\Q .non (ups S2 p (.lst (ds++[y])))
  | _=>False
 | _=>False
theorem dAppend.mo {to te:TDE}(h:MoE to) (h':MoE te):MoE (dAppend to te):=fun δ S Q Q' hq z=>h δ S _ _ (λ x S1 z=>by
 cases x with
 | ref p=>
  refine⟨z.1,h' δ S1 _ _ (λ y S2 w=>?_) z.2⟩
  split at w
  ·exact⟨w.1,hq _ _ w.2⟩
  ·exact w.elim
 | _=>exact z) z
theorem pd_append {o e:Expr}{to te:TDE}{e0:Expr}(hpe:PE X e0 (tBM X.K "list" rAppend (upE X.K to) (tCons (upE X.K te) tNil))) (h:MoE to) (h':MoE te):PD X e0 (dAppend to te):=by
 refine⟨dAppend.mo h h',PE.imp hpe fun σ H Q hu=>?_⟩
 obtain⟨δ,S,r1,r2,z⟩:=hu
 refine upE.go h r1 r2 z λ x S1 v H1 h1 q1 e1 p1=>?_
 cases x with
 | ref p=>
  obtain⟨⟨ds,hd⟩,h1⟩:=h1
  simp only[RepD] at q1
  subst q1
  obtain⟨xs,g1,g2⟩:=p1 _ _ hd
  refine⟨.inl ⟨rfl,xs,SqL.of g1⟩,?_⟩
  refine upE.go h' (r1.ext e1) p1 h1 λ y S2 w H2 h2 q2 e2 p2=>?_
  split at h2
  ·rename_i ds' e3
   obtain⟨xs',g3,g4⟩:=p2 _ _ e3
   refine⟨p,xs',w,rfl,rfl,g3,by rw[<- g4.length];exact h2.1,?_⟩
   have e4:Ext H2 (upd H2 p (.lst (xs'++[w]))):=.lst g3 _
   exact h2.2 _ _ (by simp only[RepD]) ((e1.trans e2).trans e4) (p2.ups e4 ⟨_,upd_same,RepDs.ext e4 _ (g4.snoc q2)⟩)
  ·exact h2.elim
 | non=>exact h1.elim
 | bl _=>exact h1.elim
 | int _=>exact h1.elim
 | str _=>exact h1.elim
 | err _ _ _=>exact h1.elim
 | tup _=>exact h1.elim
 | rol _=>exact h1.elim
end
structure EndsD where
 nx:StD->SS->Prop
 rt:DK
 bk:StD->SS->Prop:=λ _ _=>False
 ct:StD->SS->Prop:=λ _ _=>False
abbrev TDS:=EndsD->StD->SS->Prop
structure EndsD.Le (E E':EndsD):Prop where
 nx:∀ δ S,E.nx δ S->E'.nx δ S
 rt:∀ d S,E.rt d S->E'.rt d S
 bk:∀ δ S,E.bk δ S->E'.bk δ S
 ct:∀ δ S,E.ct δ S->E'.ct δ S
def MoS (t:TDS):Prop:=∀ E E' δ S,EndsD.Le E E'->t E δ S->t E' δ S
noncomputable def dnE (K:PySem.W.Frag) (H:Hp) (D:Ends):EndsD:=⟨dnS K H D.nx,dnK K H D.rt,dnS K H D.bk,dnS K H D.ct⟩
theorem dnE.ext {K:PySem.W.Frag}{H H':Hp}{D:Ends}(e:Ext H H'):(dnE K H D).Le (dnE K H' D):=⟨λ _ _ h=>dnS.ext e h,λ _ _ h=>dnK.ext e h,λ _ _ h=>dnS.ext e h,λ _ _ h=>dnS.ext e h⟩
def upS (K:PySem.W.Frag) (t:TDS):TS:=λ D σ H=>∃ δ S,RepSt K H δ σ/\RepH K H S/\t (dnE K H D) δ S
structure PDS (X:Cx) (st:Stmt) (t:TDS):Prop where
 mo:MoS t
 ps:PS X st (upS X.K t)
structure PDSs (X:Cx) (st:List Stmt) (t:TDS):Prop where
 mo:MoS t
 ps:PSs X st (upS X.K t)
section
variable {X:Cx}{K:PySem.W.Frag}{st:Stmt}{rest:List Stmt}{t u:TDS}{pos:Pos}{e:Expr}{te:TDE}
def dNext:TDS:=λ E δ S=>E.nx δ S
def dSeq (t u:TDS):TDS:=λ E δ S=>t { E with nx:=u E } δ S
theorem dSeq.mo (h:MoS t) (h':MoS u):MoS (dSeq t u):=λ E E' δ S hE z=>h { E with nx:=u E } { E' with nx:=u E' } δ S ⟨fun δ S q=>h' E E' δ S hE q,hE.rt,hE.bk,hE.ct⟩ z
theorem pdss_nil:PDSs X [] dNext:=⟨λ _ _ _ _ hE h=>hE.nx _ _ h,PSs.imp pss_nil λ D σ H ⟨δ,S,r1,r2,h⟩=>h σ H r1 (.refl H) r2⟩
theorem pdss_one (h:PDS X st t):PDSs X [st] t:=⟨h.mo,pss_one h.ps⟩
theorem pdss_cons (h:PDS X st t) (h':PDSs X rest u):PDSs X (st::rest) (dSeq t u):=by
 refine⟨dSeq.mo h.mo h'.mo,PSs.imp (pss_cons h.ps h'.ps) λ D σ H hu=>?_⟩
 obtain⟨δ,S,r1,r2,z⟩:=hu
 refine⟨δ,S,r1,r2,h.mo { dnE X.K H D with nx:=u (dnE X.K H D) } _ δ S ⟨fun δ' S' q σ' H' q1 q2 q3=>?_,λ _ _ q=>q,λ _ _ q=>q,λ _ _ q=>q⟩ z⟩
 exact⟨δ',S',q1,q3,h'.mo _ _ δ' S' (dnE.ext q2) q⟩
def dBreak:TDS:=λ E δ S=>E.bk δ S
theorem pds_break:PDS X (.Break pos) dBreak:=⟨λ _ _ _ _ hE h=>hE.bk _ _ h,PS.imp ps_break λ D σ H ⟨δ,S,r1,r2,h⟩=>h σ H r1 (.refl H) r2⟩
def dDrop (te:TDE):TDS:=λ E δ S=>te δ S λ _ S1=>E.nx δ S1
theorem pds_expr (he:PD X e te) (hs:swapsWith e none pos.line X.env=pure false:=by rfl):PDS X (.Expr e pos) (dDrop te):=by
 refine⟨λ E E' δ S hE z=>he.mo δ S _ _ (λ _ _ q=>hE.nx _ _ q) z,PS.imp (ps_expr he.pe hs) λ D σ H hu=>?_⟩
 obtain⟨δ,S,r1,r2,z⟩:=hu
 exact upE.go he.mo r1 r2 z λ x S1 v H1 h1 q1 e1 p1=>h1 σ H1 (r1.ext e1) e1 p1
def dRet (te:TDE):TDS:=λ E δ S=>te δ S E.rt
theorem pds_ret (he:PD X e te):PDS X (.Return (some e) pos) (dRet te):=by
 refine⟨λ E E' δ S hE z=>he.mo δ S _ _ (λ _ _ q=>hE.rt _ _ q) z,PS.imp (ps_ret he.pe) λ D σ H hu=>?_⟩
 obtain⟨δ,S,r1,r2,z⟩:=hu
 exact upE.go he.mo r1 r2 z λ x S1 v H1 h1 q1 e1 p1=>h1 v H1 q1 e1 p1
def dIfS (c:TDT) (t u:TDS):TDS:=λ E δ S=>c δ S λ k S1=>if k=true then t E δ S1 else u E δ S1
theorem pds_if {c:Expr}{p q:List Stmt}{tc:TDT}(hc:PDT X c tc) (h:PDSs X p t) (h':PDSs X q u):PDS X (.If c p q pos) (dIfS tc t u):=by
 refine⟨λ E E' δ S hE z=>hc.mo δ S _ _ (λ k S1 z=>ite_imp (h.mo _ _ δ S1 hE) (h'.mo _ _ δ S1 hE) z) z,PS.imp (ps_if hc.pt h.ps h'.ps) λ D σ H hu=>?_⟩
 obtain⟨δ,S,r1,r2,z⟩:=hu
 refine upT.go hc.mo r1 r2 z λ k S1 H1 h1 e1 p1=>ite_imp (λ z=>?_) (λ z=>?_) h1
 ·exact⟨δ,S1,r1.ext e1,p1,h.mo _ _ δ S1 (dnE.ext e1) z⟩
 ·exact⟨δ,S1,r1.ext e1,p1,h'.mo _ _ δ S1 (dnE.ext e1) z⟩
abbrev TDG:=D->StD->SS->(StD->SS->Prop)->Prop
abbrev TDGs:=List D->StD->SS->(StD->SS->Prop)->Prop
def MoG (t:TDG):Prop:=∀ d δ S (Q Q':StD->SS->Prop),(∀ δ S,Q δ S->Q' δ S)->t d δ S Q->t d δ S Q'
def MoGs (t:TDGs):Prop:=∀ d δ S (Q Q':StD->SS->Prop),(∀ δ S,Q δ S->Q' δ S)->t d δ S Q->t d δ S Q'
noncomputable def upG (K:PySem.W.Frag) (t:TDG):TG:=λ v σ H Q=>∃ d δ S,RepD K H d v/\RepSt K H δ σ/\RepH K H S/\t d δ S (dnS K H Q)
noncomputable def upGs (K:PySem.W.Frag) (t:TDGs):TGs:=λ v σ H Q=>∃ d δ S,RepDs K H d v/\RepSt K H δ σ/\RepH K H S/\t d δ S (dnS K H Q)
structure PDG (X:Cx) (e:Expr) (t:TDG):Prop where
 mo:MoG t
 pg:PG X e (upG X.K t)
structure PDGs (X:Cx) (es:List Expr) (t:TDGs):Prop where
 mo:MoGs t
 pg:PGs X es (upGs X.K t)
theorem PG.imp {e:Expr}{t t':TG}(h:PG X e t) (hi:∀ v σ H Q,t' v σ H Q->t v σ H Q):PG X e t':=λ pins s σ H v w Q I r q=>h pins s σ H v w Q I r (hi v σ H Q q)
theorem PGs.imp {e:List Expr}{t t':TGs}(h:PGs X e t) (hi:∀ v σ H Q,t' v σ H Q->t v σ H Q):PGs X e t':=λ pins s σ H v w Q I r q=>h pins s σ H v w Q I r (hi v σ H Q q)
def hName (i:Nat):TDG:=λ d δ S Q=>Q (δ.set i (some d)) S
theorem pdg_name {e:Expr}{i:Nat}(h:PG X e (gName i)):PDG X e (hName i):=
 ⟨λ _ _ _ _ _ hq z=>hq _ _ z,PG.imp h λ v σ H Q ⟨d,δ,S,r1,r2,r3,z⟩=>z _ H (r2.set i r1) (.refl H) r3⟩
def hNil:TDGs:=λ ds δ S Q=>ds=[]/\Q δ S
def hCons (t:TDG) (u:TDGs):TDGs:=λ ds δ S Q=>match ds with
 | d::r=>t d δ S fun δ' S'=>u r δ' S' Q
 | []=>False
theorem pdgs_nil:PDGs X [] hNil:=by
 refine⟨λ _ _ _ _ _ hq z=>⟨z.1,hq _ _ z.2⟩,PGs.imp pgs_nil λ v σ H Q hu=>?_⟩
 obtain⟨d,δ,S,r1,r2,r3,z1,z2⟩:=hu
 subst z1
 simp only[RepDs] at r1
 exact⟨r1,z2 σ H r2 (.refl H) r3⟩
theorem pdgs_cons {e:Expr}{es:List Expr}{t:TDG}{u:TDGs}(h:PDG X e t) (h':PDGs X es u) (hs:(assignEach (e::es) X.env).map (·.2)=assign e X.env::(assignEach es X.env).map (·.2):=by rfl):PDGs X (e::es) (hCons t u):=by
 refine⟨λ ds δ S Q Q' hq z=>?_,PGs.imp (pgs_cons h.pg h'.pg hs) λ v σ H Q hu=>?_⟩
 ·cases ds with
  | nil=>exact z
  | cons d r=>exact h.mo d δ S _ _ (fun δ' S' z=>h'.mo r δ' S' _ _ hq z) z
 ·obtain⟨ds,δ,S,r1,r2,r3,z⟩:=hu
  cases ds with
  | nil=>exact z.elim
  | cons d r=>
   simp only[RepDs] at r1
   obtain⟨x,xs,rfl,q1,q2⟩:=r1
   refine⟨x,xs,rfl,d,δ,S,q1,r2,r3,h.mo d δ S _ _ (fun δ' S' z σ' H' g1 g2 g3=>?_) z⟩
   exact⟨r,δ',S',RepDs.ext g2 r q2,g1,g3,h'.mo r δ' S' _ _ (fun δ2 S2 z2=>dnS.ext g2 z2) z⟩
def hTup (n:Nat) (t:TDGs):TDG:=λ d δ S Q=>match d with
 | .tup ds=>ds.length=n/\t ds δ S Q
 | _=>False
theorem pdg_tup {e:Expr}{n:Nat}{t:TDGs}(h:PG X e (gTup X.K n (upGs X.K t))) (hm:MoGs t):PDG X e (hTup n t):=by
 refine⟨λ d δ S Q Q' hq z=>?_,PG.imp h λ v σ H Q hu=>?_⟩
 ·cases d with
  | tup ds=>exact⟨z.1,hm ds δ S _ _ hq z.2⟩
  | _=>exact z
 ·obtain⟨d,δ,S,r1,r2,r3,z⟩:=hu
  cases d with
  | tup ds=>
   simp only[RepD] at r1
   obtain⟨a,xs,rfl,q1,q2⟩:=r1
   exact⟨a,xs,rfl,q1,by rw[<- q2.length];exact z.1,ds,δ,S,q2,r2,r3,z.2⟩
  | non=>exact z.elim
  | bl _=>exact z.elim
  | int _=>exact z.elim
  | str _=>exact z.elim
  | err _ _ _=>exact z.elim
  | rol _=>exact z.elim
  | ref _=>exact z.elim
def dAsg (te:TDE) (g:TDG):TDS:=λ E δ S=>te δ S λ x S1=>g x δ S1 E.nx
theorem dAsg.mo {g:TDG}(h:MoE te) (h':MoG g):MoS (dAsg te g):=λ E E' δ S hE z=>h δ S _ _ (λ x S1 q=>h' x δ S1 _ _ (fun δ S q=>hE.nx _ _ q) q) z
theorem upAsg {g:TDG}(h:MoE te) (h':MoG g) {D:Ends}{σ:St}{H:Hp}(hu:upS K (dAsg te g) D σ H):tAsg (upE K te) (upG K g) D σ H:=by
 obtain⟨δ,S,r1,r2,z⟩:=hu
 refine upE.go h r1 r2 z λ x S1 v H1 h1 q1 e1 p1=>?_
 exact⟨x,δ,S1,q1,r1.ext e1,p1,h' x δ S1 _ _ (fun δ S q=>dnS.ext e1 q) h1⟩
theorem pds_asg {tg e:Expr}{g:TDG}(he:PD X e te) (hg:PDG X tg g) (hs:swapsWithSole [tg] e pos.line X.env=pure false:=by rfl) (hw:swappedStores [tg] e X.env=pure none:=by rfl)
  (h1:(assignEach [tg] X.env).map (·.2)=[assign tg X.env]:=by rfl):PDS X (.Assign [tg] e pos) (dAsg te g):=
 ⟨dAsg.mo he.mo hg.mo,PS.imp (ps_asg he.pe hg.pg hs hw h1) λ _ _ _ hu=>upAsg he.mo hg.mo hu⟩
theorem pds_set {e0:Stmt}{i:Nat}(h:PS X e0 (tAsg (upE X.K te) (gName i))) (hm:MoE te):PDS X e0 (dAsg te (hName i)):=by
 refine⟨dAsg.mo hm λ _ _ _ _ _ hq z=>hq _ _ z,PS.imp h λ D σ H hu=>?_⟩
 obtain⟨δ,S,r1,r2,z⟩:=hu
 refine upE.go hm r1 r2 z λ x S1 v H1 h1 q1 e1 p1=>?_
 exact h1 _ H1 ((r1.ext e1).set i q1) e1 p1
end
end L3
namespace L3
open PySem PySem.Spec L2
open PyProof.Rows hiding St
structure DIt where
 items:List D
 keep:SS->Prop
abbrev TDI:=StD->SS->(DIt->SS->Prop)->Prop
def MoI (t:TDI):Prop:=∀ δ S (Q Q':DIt->SS->Prop),(∀ I S',Q I S'->Q' I S')->t δ S Q->t δ S Q'
def ItRep (K:PySem.W.Frag) (H1:Hp) (J:It) (I:DIt):Prop:=∀ (i:Nat) (H:Hp) (S:SS),Ext H1 H->RepH K H S->I.keep S->
 (∀ d,I.items[i]?=some d->J.go i H/\∀ x H',J.yld i H x H'->Ext H H'/\RepH K H' S/\RepD K H' d x)/\(I.items.length<=i->J.stop i H)
def dnI (K:PySem.W.Frag) (H:Hp) (R:It->Hp->Prop):DIt->SS->Prop:=λ I S1=>∀ J H1,Ext H H1->RepH K H1 S1->ItRep K H1 J I->R J H1
def upI (K:PySem.W.Frag) (t:TDI):TI:=fun σ H R=>∃ δ S,RepSt K H δ σ/\RepH K H S/\t δ S (dnI K H R)
structure PDI (X:Cx) (tg iter:Expr) (t:TDI):Prop where
 mo:MoI t
 pi:PI X tg iter (upI X.K t)
theorem PI.imp {X:Cx}{tg e:Expr}{t t':TI}(h:PI X tg e t) (hi:∀ σ H Q,t' σ H Q->t σ H Q):PI X tg e t':=λ pins s σ H Q I q=>h pins s σ H Q I (hi σ H Q q)
section
variable {X:Cx}{K:PySem.W.Frag}{tg e:Expr}{te:TDE}{pos:Pos}
theorem RepDs.at {H:Hp}{ds:List D}{xs:List V}{i:Nat}{d:D}{x:V}(r:RepDs K H ds xs) (h1:ds[i]?=some d) (h2:xs[i]?=some x):RepD K H d x:=by
 obtain⟨y,e1,e2⟩:=r.get h1
 rw[h2] at e1;cases e1;exact e2
noncomputable def rangeD (lo:Int) (n:Nat):List D:=(List.range n).map λ(k:Nat)=>D.int (lo+(k:Int))
theorem rangeD_get {lo:Int}{n i:Nat}{d:D}(h:(rangeD lo n)[i]?=some d):i<n/\d=.int (lo+(i:Int)):=by
 unfold rangeD at h
 rw[List.getElem?_map] at h
 cases q:(List.range n)[i]? with
 | none=>rw[q] at h;cases h
 | some j=>
  rw[q] at h
  obtain⟨h1,h2⟩:=List.getElem?_eq_some_iff.mp q
  rw[List.length_range] at h1
  rw[List.getElem_range] at h2
  subst h2
  cases h
  exact⟨h1,rfl⟩
theorem rangeD_len (lo:Int) (n:Nat):(rangeD lo n).length=n:=by unfold rangeD;rw[List.length_map,List.length_range]
theorem ItRep.range {H1:Hp}{lo:Int}{n:Nat}:ItRep K H1 (Itr lo n) ⟨rangeD lo n,λ _=>True⟩:=λ i H S _ x2 _=>by
 refine⟨λ d hd=>?_,λ hl=>by rw[show (DIt.mk (rangeD lo n) λ _=>True).items=rangeD lo n from rfl,rangeD_len] at hl;exact hl⟩
 obtain⟨h1,rfl⟩:=rangeD_get hd
 refine⟨h1,λ x H' q=>?_⟩
 obtain⟨rfl,rfl⟩:=q
 exact⟨.refl _,x2,by simp only[RepD]⟩
def jRng1 (t:TDA):TDI:=fun δ S R=>t δ S λ ds S1=>match ds with
 | [.int j]=>(-(2 ^ 62)<=j/\j<2 ^ 62)/\R ⟨rangeD 0 j.toNat,λ _=>True⟩ S1
 | _=>False
def jRng2 (t:TDA):TDI:=fun δ S R=>t δ S λ ds S1=>match ds with
 | [.int i,.int j]=>(-(2 ^ 62)<=i/\i<2 ^ 62/\-(2 ^ 62)<=j/\j<2 ^ 62)/\R ⟨rangeD i (j-i).toNat,λ _=>True⟩ S1
 | _=>False
variable {tA:TDA}
theorem pdi_range1 (h:PI X tg e (iRng1 (upA X.K tA))) (hm:MoA tA):PDI X tg e (jRng1 tA):=by
 refine⟨fun δ S Q Q' hq z=>hm δ S _ _ (λ ds S1 z=>?_) z,PI.imp h fun σ H R hu=>?_⟩
 ·split at z
  ·exact⟨z.1,hq _ _ z.2⟩
  ·exact z.elim
 ·obtain⟨δ,S,r1,r2,z⟩:=hu
  refine upA.go hm r1 r2 z λ ds S1 xs H1 h1 q1 e1 p1=>?_
  split at h1
  ·obtain⟨x,rfl,q⟩:=q1.one
   simp only[RepD] at q
   subst q
   exact⟨_,rfl,h1.1.1,h1.1.2,h1.2 _ H1 e1 p1 .range⟩
  ·exact h1.elim
theorem pdi_range2 (h:PI X tg e (iRng2 (upA X.K tA))) (hm:MoA tA):PDI X tg e (jRng2 tA):=by
 refine⟨fun δ S Q Q' hq z=>hm δ S _ _ (λ ds S1 z=>?_) z,PI.imp h fun σ H R hu=>?_⟩
 ·split at z
  ·exact⟨z.1,hq _ _ z.2⟩
  ·exact z.elim
 ·obtain⟨δ,S,r1,r2,z⟩:=hu
  refine upA.go hm r1 r2 z λ ds S1 xs H1 h1 q1 e1 p1=>?_
  split at h1
  ·obtain⟨x,y,rfl,q,q'⟩:=q1.two
   simp only[RepD] at q q'
   subst q q'
   exact⟨_,_,rfl,h1.1,h1.2 _ H1 e1 p1 .range⟩
  ·exact h1.elim
def dFor (ti:TDI) (g:TDG) (tb:TDS):TDS:=λ E δ S=>ti δ S λ I S1=>∃ W:Nat->StD->SS->Prop,W 0 δ S1/\(∀ i δ S,W i δ S->I.keep S)/\
 (∀ i d δ S,I.items[i]?=some d->W i δ S->g d δ S fun δ2 S2=>tb { E with nx:=W (i+1),ct:=W (i+1),bk:=E.nx } δ2 S2)/\∀ δ S,W I.items.length δ S->E.nx δ S
theorem dFor.mo {ti:TDI}{g:TDG}{tb:TDS}(hi:MoI ti) (hg:MoG g) (hb:MoS tb):MoS (dFor ti g tb):=λ E E' δ S hE z=>hi δ S _ _ (λ I S1 ⟨W,w0,wk,ws,wd⟩=>by
 refine⟨W,w0,wk,λ i d δ S hd hw=>hg d δ S _ _ (fun δ2 S2 z=>hb { E with nx:=W (i+1),ct:=W (i+1),bk:=E.nx } { E' with nx:=W (i+1),ct:=W (i+1),bk:=E'.nx } δ2 S2 ⟨λ _ _ q=>q,hE.rt,hE.nx,λ _ _ q=>q⟩ z) (ws i d δ S hd hw),fun δ S q=>hE.nx _ _ (wd δ S q)⟩) z
theorem pds_for {iter:Expr}{body:List Stmt}{ti:TDI}{g:TDG}{tb:TDS}(hp:PassesOwn (model X.prog X.w) X.A X.env X.xe) (hc:X.calm=true) (hi:PDI X tg iter ti) (hg:PDG X tg g) (hb:PDSs X body tb)
  (hs:∀ x,foldedSetIterable iter X.env x=pure x:=by intro _;rfl):PDS X (.For tg iter body [] pos) (dFor ti g tb):=by
 refine⟨dFor.mo hi.mo hg.mo hb.mo,PS.imp (ps_for hp hc hi.pi hg.pg hb.ps hs) λ D σ H hu=>?_⟩
 obtain⟨δ,S,r1,r2,z⟩:=hu
 refine⟨δ,S,r1,r2,hi.mo δ S _ _ (λ I S1 hW J H1 e1 p1 rep=>?_) z⟩
 obtain⟨W,w0,wk,ws,wd⟩:=hW
 refine⟨λ i m σ H2=>m=I.items.length-i/\i<=I.items.length/\Ext H1 H2/\∃ δ S,RepSt X.K H2 δ σ/\RepH X.K H2 S/\W i δ S,⟨_,rfl,Nat.zero_le _,.refl _,δ,S1,r1.ext e1,p1,w0⟩,?_⟩
 rintro i m σ2 H2 ⟨rfl,hi',x2,δ2,S2,q1,q2,w2⟩
 obtain⟨g1,g2⟩:=rep i H2 S2 x2 q2 (wk i δ2 S2 w2)
 by_cases hl:i<I.items.length
 ·have hd:I.items[i]?=some I.items[i]:=by simp[hl]
  obtain⟨go,yl⟩:=g1 _ hd
  refine .inr ⟨go,fun σ' H'=>Ext H1 H'/\∃ δ S,RepSt X.K H' δ σ'/\RepH X.K H' S/\W (i+1) δ S,fun σ' H' q=>⟨_,by omega,rfl,hl,q⟩,λ x H3 hy=>?_⟩
  obtain⟨x3,p3,d3⟩:=yl x H3 hy
  refine⟨_,δ2,S2,d3,q1.ext x3,p3,hg.mo _ δ2 S2 _ _ (fun δ4 S4 z4 σ4 H4 a1 a2 a3=>?_) (ws i _ δ2 S2 hd w2)⟩
  refine⟨δ4,S4,a1,a3,hb.mo _ _ δ4 S4 ⟨fun δ5 S5 w5 σ5 H5 b1 b2 b3=>⟨((x2.trans x3).trans a2).trans b2,δ5,S5,b1,b3,w5⟩,λ _ _ q=>dnK.ext (((e1.trans x2).trans x3).trans a2) q,λ _ _ q=>dnS.ext (((e1.trans x2).trans x3).trans a2) q,fun δ5 S5 w5 σ5 H5 b1 b2 b3=>⟨((x2.trans x3).trans a2).trans b2,δ5,S5,b1,b3,w5⟩⟩ z4⟩
 ·have e:i=I.items.length:=by omega
  subst e
  exact .inl ⟨g2 (Nat.le_refl _),wd δ2 S2 w2 σ2 H2 q1 (e1.trans x2) q2⟩
abbrev SpD:=List D->SS->DK->Prop
def MoP (sp:SpD):Prop:=∀ ds S (Q Q':DK),(∀ d S',Q d S'->Q' d S')->sp ds S Q->sp ds S Q'
noncomputable def upP (K:PySem.W.Frag) (sp:SpD):Sp:=λ vs H Q _=>∃ ds S,RepDs K H ds vs/\RepH K H S/\sp ds S (dnK K H Q)
def dCall (sp:SpD) (t:TDA):TDE:=fun δ S Q=>t δ S λ ds S1=>sp ds S1 Q
theorem pd_call {sp:SpD}{E:XK}{e:Expr}(h:PE X e (tCall (upP X.K sp) [] E (upA X.K tA))) (hs:MoP sp) (hm:MoA tA):PD X e (dCall sp tA):=by
 refine⟨fun δ S Q Q' hq z=>hm δ S _ _ (λ ds S1 z=>hs ds S1 _ _ hq z) z,PE.imp h fun σ H Q hu=>?_⟩
 obtain⟨δ,S,r1,r2,z⟩:=hu
 refine upA.go hm r1 r2 z λ ds S1 xs H1 h1 q1 e1 p1=>?_
 rw[List.append_nil]
 exact⟨ds,S1,q1,p1,hs ds S1 _ _ (λ d S' q=>dnK.ext e1 q) h1⟩
noncomputable def startD (N:List Str) (ds:List D):StD:=ds.map some++List.replicate (N.length-ds.length) none
theorem RepSt.init {H:Hp}{N:List Str}{ds:List D}{vs:List V}(r:RepDs K H ds vs):RepSt K H (startD N ds) (start N vs):=by
 have hl:=r.length
 refine⟨by unfold startD L2.start;simp[hl],λ i d h=>?_⟩
 unfold startD at h
 have hi:i<ds.length:=by
  rcases Nat.lt_or_ge i ds.length with q | q
  ·exact q
  ·rw[List.getElem?_append_right (by simpa using q),List.getElem?_replicate] at h
   split at h <;> cases h
 rw[List.getElem?_append_left (by simpa using hi),List.getElem?_map] at h
 cases q:ds[i]? with
 | none=>rw[q] at h;cases h
 | some d'=>
  rw[q] at h
  cases h
  obtain⟨x,e1,e2⟩:=r.get q
  refine⟨x,?_,e2⟩
  unfold L2.start
  rw[List.getElem?_append_left (by simpa using by omega),List.getElem?_map,e1]
  rfl
theorem fun_ok {P:Program}{w:World}{K:PySem.W.Frag}{mg:Str->Option Value}{base:Heap}{x qual:Str}{st:Stmt}{f:Addr}{fd:FuncData}{N ps:List Str}{k:Nat}{sp:SpD}(F:Fun K x qual st f fd) (Sc:FnScope N ps (defScope st))
  (len:∀ ds S Q,sp ds S Q->ds.length=ps.length)
  (hbody:∀ (cdv:Value) (A:Around) (outer:List Env) (s:Shared) (H:Hp) (E:XK),Room k (A.deeper (envOfC qual (defScope st) s.heap.objs.size f cdv))->
   ∃ t,PDSs (cxOf CX0 P w K mg base N qual (defScope st) f cdv A outer s H E).nox (defBody st) t/\∀ ds S Q,sp ds S Q->t { nx:=λ _ S'=>Q .non S',rt:=Q } (startD N ds) S):FnOk P w K mg base CX0 (k+1) f fd ps (upP K sp):=by
 refine F.ok Sc (λ vs H Q E h=>?_) λ cdv A outer s H vs Q E hr h=>?_
 ·obtain⟨ds,S,r1,_,z⟩:=h
  rw[<- r1.length];exact len _ _ _ z
 ·obtain⟨ds,S,r1,r2,z⟩:=h
  obtain⟨t,ht,hq⟩:=hbody cdv A outer s H E hr
  refine⟨_,ht.ps,startD N ds,S,.init r1,r2,ht.mo { nx:=λ _ S'=>dnK K H Q .non S',rt:=dnK K H Q } _ _ _ ⟨fun δ S' q σ' H' _ b c=>q .non H' (by simp only[RepD]) b c,λ _ _ q=>q,λ _ _ q=>False.elim q,λ _ _ q=>False.elim q⟩ (hq ds S _ z)⟩
noncomputable def pickD (pick:List (Option Nat)) (δ:StD):StD:=pick.map λ o=>o.bind λ i=>(δ[i]?).join
theorem RepSt.pick {H:Hp}{δ:StD}{σ:St}(r:RepSt K H δ σ) (pick:List (Option Nat)):RepSt K H (pickD pick δ) (pickSt pick σ):=by
 refine⟨by unfold pickD pickSt;simp,λ i d h=>?_⟩
 unfold pickD at h
 rw[List.getElem?_map] at h
 cases q:pick[i]? with
 | none=>rw[q] at h;cases h
 | some o=>
  rw[q] at h
  cases o with
  | none=>simp at h
  | some j=>
   simp only[Option.map_some,Option.bind_some,Option.some.injEq] at h
   have hj:δ[j]?=some (some d):=by
    cases q2:δ[j]? with
    | none=>rw[q2] at h;cases h
    | some o2=>rw[q2] at h;simp only[Option.join_some] at h;rw[h]
   obtain⟨v,e1,e2⟩:=r.2 j d hj
   refine⟨v,?_,e2⟩
   unfold pickSt
   rw[List.getElem?_map,q]
   simp[e1]
def StLe (δ δ':StD):Prop:=δ.length=δ'.length/\∀ (i:Nat) d,δ[i]?=some (some d)->δ'[i]?=some (some d)
theorem StLe.rep {H:Hp}{δ δ':StD}{σ:St}(h:StLe δ δ') (r:RepSt K H δ' σ):RepSt K H δ σ:=⟨h.1.trans r.1,λ i d q=>r.2 i d (h.2 i d q)⟩
structure PDF (X:Cx) (ifs:List Expr) (t:TDT):Prop where
 mo:MoT t
 pf:PF X ifs (upT X.K t)
theorem PF.imp {ifs:List Expr}{t t':TT}(h:PF X ifs t) (hi:∀ σ H Q,t' σ H Q->t σ H Q):PF X ifs t':=λ pins s σ H Q I q=>h pins s σ H Q I (hi σ H Q q)
def eTrue:TDT:=λ _ S Q=>Q true S
theorem pdf_nil:PDF X [] eTrue:=⟨λ _ _ _ _ hq z=>hq _ _ z,PF.imp pf_nil λ _ H _ ⟨_,_,_,r2,z⟩=>z H (.refl H) r2⟩
theorem pdf_one {c:Expr}{t:TDT}(h:PDT X c t):PDF X [c] t:=⟨h.mo,pf_one h.pt⟩
section
variable {N':List Str}{pick:List (Option Nat)}{scope:Scope}{elt iter:Expr}{ifs:List Expr}{ti:TDI}{g:TDG}{tc:TDT}
end
end
end L3
namespace L2
open PySem PySem.Spec PyProof.Rows
def iSeq (K:PySem.W.Frag) (tl:TE):TI:=fun σ H R=>tl σ H λ x H1=>∃ a,x=.ref a/\(((∃ xs,SqL K H1 a xs)/\R (Itl K a) H1)\/((∃ xs,SqT K H1 a xs)/\R (Itt K a) H1))
theorem pi_seq {X:Cx}{tg l:Expr}{tl:TE}(hl:PE X l tl):PI X tg l (iSeq X.K tl):=by
 intro pins s σ H R I h
 refine thn (hl pins s σ H _ I h) λ v s1 ⟨x,H1,I1,r1,a,hx,q1⟩=>?_
 subst hx
 cases r1
 have new:∀ b∈[s1.heap.objs.size],FpOk X pins H1 b:=λ b hb=>by
  obtain rfl:b=s1.heap.objs.size:=List.mem_singleton.mp hb
  exact I1.fpOk (Nat.le_refl _) (I1.hok.fresh (Nat.le_refl _))
 rcases q1 with ⟨⟨xs,hq⟩,q⟩ | ⟨⟨xs,hq⟩,q⟩
 ·obtain⟨its,_,pl,_⟩:=I1.list hq
  exact wpAny_pyIter_list pl.isList ⟨_,_,_,_,H1,rfl,I1.kept (t':=s1.toks) λ b o eo=>Heap.get?_push_of_some _ eo,turn_list a _,⟨_,Heap.get?_push_size _ rfl,rfl,rfl⟩,new,q⟩
 ·obtain⟨its,_,pt,_⟩:=I1.tuple hq
  exact wpAny_pyIter_tuple (show s1.heap.IsTuple a its.toArray from pt) ⟨_,_,_,_,H1,rfl,I1.kept (t':=s1.toks) λ b o eo=>Heap.get?_push_of_some _ eo,turn_tuple a _,⟨_,Heap.get?_push_size _ rfl,rfl,rfl⟩,new,q⟩
theorem range_all (bs:List Bool):(List.range bs.length).all (λ i=>bs.getD i true)=bs.all id:=by
 rw[Bool.eq_iff_iff,List.all_eq_true,List.all_eq_true]
 constructor
 ·intro h b hb
  obtain⟨i,hi,rfl⟩:=List.mem_iff_getElem.mp hb
  have:=h i (List.mem_range.mpr hi)
  simpa [hi] using this
 ·intro h i hi
  have hi':=List.mem_range.mp hi
  have:=h bs[i] (List.getElem_mem hi')
  simpa [hi'] using this
theorem bools_at {bs:List Bool}{its:List Value}(r:Vals (bs.map V.bl) its) {i:Nat}{v:Value}(h:its.toArray[i]?=some v):v=.bool (bs.getD i true):=by
 have hl:=r.length
 rw[List.length_map] at hl
 have h':its[i]?=some v:=by simpa using h
 have hi:i<bs.length:=by
  rw[hl]
  rcases Nat.lt_or_ge i its.length with q | q
  ·exact q
  ·rw[List.getElem?_eq_none q] at h';cases h'
 obtain⟨u,e1,e2⟩:=r.get (i:=i) (x:=.bl bs[i]) (by simp[hi])
 rw[h'] at e1;cases e1
 have:v=.bool bs[i]:=e2
 rw[this]
 simp[hi]
section
variable {X:Cx}
theorem call_allB (hc:X.calm=true):CallR X (.builtin "all") (λ xs H Q=>∃ p,∃ bs:List Bool,xs=[.ref p]/\SqL X.K H p (bs.map V.bl)/\Q (.bl (bs.all id)) H):=by
 intro pins s σ H xs us Q I r h
 obtain⟨p,bs,rfl,hq,q⟩:=h
 obtain⟨u,rfl,ru⟩:=vals1 r
 cases ru
 obtain⟨its,rv,pl,hz⟩:=I.list hq
 have hl:=rv.length
 rw[List.length_map] at hl
 have hlt:p<s.heap.objs.size:=by obtain⟨o,n,e,_⟩:=pl;exact Heap.lt_size e
 refine call_all_walk (wpAny_pyIter_list pl.isList ?_)
 refine⟨s.heap.objs.size,_,_,_,_,_,λ i=>bs.getD i true,rfl,Walks.list (A:=X.A.in1) (I.ok.hd hc) s.heap.objs.size p (Nat.ne_of_lt hlt) its.toArray,⟨⟨_,Heap.get?_push_size _ rfl,rfl,rfl⟩,pl.isList.push _⟩,λ i v s' Q' E' hv hq'=>?_,λ h' tk hk=>?_⟩
 ·rw[bools_at rv hv]
  exact wpAny_truthy_bool hq'
 ·have e:(List.range its.toArray.size).all (λ i=>bs.getD i true)=bs.all id:=by rw[List.size_toArray,<- hl,range_all]
  rw[e]
  exact⟨.bl _,H,I.kept (t':=tk) λ b o eo=>hk b o (by simpa using Nat.ne_of_lt (Heap.lt_size eo)) (Heap.get?_push_of_some _ eo),rfl,q⟩
end
end L2
namespace L3
open PySem PySem.Spec L2
open PyProof.Rows hiding St
structure Bt (mg:Str->Option Value):Prop where
 len:mg "len"=none
 range:mg "range"=none
 any:mg "any"=none
 all:mg "all"=none
 sorted:mg "sorted"=none
 isinstance:mg "isinstance"=none
 bool:mg "bool"=none
 int:mg "int"=none
 str:mg "str"=none
 list:mg "list"=none
 tuple:mg "tuple"=none
 max:mg "max"=none
 min:mg "min"=none
section
variable {X:Cx}{K:PySem.W.Frag}{a b c e:Expr}{es:List Expr}{ta tb tc te:TDE}{tA:TDA}{pos p:Pos}
theorem csc {N':List Str}{pick:List (Option Nat)}{scope esc:Scope}{N:List Str}(hE:X.env.scope=esc:=by rfl) (hN:X.N=N:=by rfl) (h1:scope.kind=.function:=by rfl) (h2:scope.names.all (λ y=>decide (y.2≠.cell))=true:=by decide +kernel)
  (h3:scope.names.all (λ y=>!decide (y.2=.local)||decide (scope.names.lookup y.1=some .local))=true:=by decide +kernel)
  (h4:scope.names.all (λ y=>!decide (y.2=.free)||(decide (esc.names.lookup y.1=some .cell)||decide (esc.names.lookup y.1=some .free)))=true:=by decide +kernel)
  (h5:pick.length=N'.length:=by rfl) (h6:pickOk N N' pick scope=true:=by decide +kernel):CScope X N' pick scope:=by
 refine⟨h1,λ y hy=>?_,λ y hy hl=>?_,λ y hy hf=>?_,h5,by rw[hN];exact h6⟩
 ·exact of_decide_eq_true (List.all_eq_true.mp h2 y hy)
 ·have:=List.all_eq_true.mp h3 y hy
  rw[decide_eq_true hl] at this
  simpa using this
 ·have:=List.all_eq_true.mp h4 y hy
  rw[decide_eq_true hf] at this
  rw[hE]
  simpa using this
theorem pdg_nm (i:Nat) {x:Str}(hN:X.N.Nodup) (hi:X.N[i]?=some x:=by rfl) (hx:Loc X.env.scope x:=by first | exact Or.inl rfl | exact Or.inr rfl) (hf:X.fn x=true\/X.env.scope.names.lookup x=some .local:=by first | exact .inl rfl | exact .inr rfl):PDG X (.Name x pos) (hName i):=
 pdg_name (pg_name hN hi hx hf)
theorem pdg_tp {k:Nat}{t:TDGs}{n:Nat}(h:PDGs X es t) (hc:X.calm=true:=by rfl) (hn:(assignEach es X.env).length=n:=by rfl) (hst:(assignEach es X.env).findIdx? (·.1)=none:=by rfl):PDG X (.Tuple es k pos) (hTup n t):=
 pdg_tup (pg_tup hc h.pg hn hst) h.mo
theorem pds_st (i:Nat) {x:Str}{pos':Pos}(hN:X.N.Nodup) (he:PD X e te) (hi:X.N[i]?=some x:=by rfl) (hx:Loc X.env.scope x:=by first | exact Or.inl rfl | exact Or.inr rfl) (hs:swapsWith e (some (.Name x pos')) pos.line X.env=pure false:=by rfl)
  (hf:X.fn x=true\/X.env.scope.names.lookup x=some .local:=by first | exact .inl rfl | exact .inr rfl):PDS X (.Assign [.Name x pos'] e pos) (dAsg te (hName i)):=
 pds_set (ps_set hN hi hx he.pe hs hf) he.mo
def jSeq (te:TDE):TDI:=fun δ S R=>te δ S λ x S1=>match x with
 | .tup ds=>R ⟨ds,λ _=>True⟩ S1
 | .rol ds=>R ⟨ds,λ _=>True⟩ S1
 | .ref p=>match S1 p with
  | some (.lst ds)=>R ⟨ds,λ S=>S p=some (.lst ds)⟩ S1
  | _=>False
 | _=>False
theorem pdi_seq {tg:Expr}(h:PD X e te):PDI X tg e (jSeq te):=by
 refine⟨fun δ S Q Q' hq z=>h.mo δ S _ _ (λ x S1 z=>?_) z,?_⟩
 ·cases x with
  | ref p=>
   dsimp only at z ⊢
   split at z
   ·exact hq _ _ z
   ·exact z.elim
  | rol ds=>exact hq _ _ z
  | tup ds=>exact hq _ _ z
  | _=>exact z
 ·refine PI.imp (pi_seq h.pe) fun σ H R hu=>?_
  obtain⟨δ,S,r1,r2,z⟩:=hu
  refine upE.go h.mo r1 r2 z λ x S1 v H1 h1 q1 e1 p1=>?_
  cases x with
  | tup ds=>
   simp only[RepD] at q1
   obtain⟨a,xs,rfl,g1,g2⟩:=q1
   refine⟨a,rfl,.inr ⟨⟨xs,g1⟩,h1 _ H1 e1 p1 λ i H2 S2 x1 x2 _=>⟨λ d hd=>?_,λ hl=>⟨xs,x1.sqt g1,by rw[<- g2.length];exact hl⟩⟩⟩⟩
   obtain⟨y,hy,_⟩:=g2.get hd
   refine⟨⟨xs,y,x1.sqt g1,hy⟩,λ x H' q=>?_⟩
   obtain⟨rfl,q⟩:=q
   exact⟨.refl _,x2,(RepDs.ext x1 ds g2).at hd (q xs (x1.sqt g1))⟩
  | ref p=>
   dsimp only at h1
   split at h1
   ·rename_i ds e2
    simp only[RepD] at q1
    subst q1
    obtain⟨xs0,g1,_⟩:=p1 _ _ e2
    refine⟨p,rfl,.inl ⟨⟨xs0,SqL.of g1⟩,h1 _ H1 e1 p1 λ i H2 S2 x1 x2 hk=>?_⟩⟩
    obtain⟨xs,g3,g4⟩:=x2 _ _ hk
    refine⟨λ d hd=>?_,λ hl=>⟨xs,SqL.of g3,by rw[<- g4.length];exact hl⟩⟩
    obtain⟨y,hy,_⟩:=g4.get hd
    refine⟨⟨xs,y,SqL.of g3,hy⟩,λ x H' q=>?_⟩
    obtain⟨rfl,q⟩:=q
    exact⟨.refl _,x2,g4.at hd (q xs (SqL.of g3))⟩
   ·exact h1.elim
  | rol ds=>
   simp only[RepD] at q1
   obtain⟨a,xs,rfl,g1,g2⟩:=q1
   refine⟨a,rfl,.inl ⟨⟨xs,g1.sq⟩,h1 _ H1 e1 p1 λ i H2 S2 x1 x2 _=>⟨λ d hd=>?_,λ hl=>⟨xs,(x1.sqf g1).sq,by rw[<- g2.length];exact hl⟩⟩⟩⟩
   obtain⟨y,hy,_⟩:=g2.get hd
   refine⟨⟨xs,y,(x1.sqf g1).sq,hy⟩,λ x H' q=>?_⟩
   obtain⟨rfl,q⟩:=q
   exact⟨.refl _,x2,(RepDs.ext x1 ds g2).at hd (q xs (x1.sqf g1).sq)⟩
  | non=>exact h1.elim
  | bl _=>exact h1.elim
  | int _=>exact h1.elim
  | str _=>exact h1.elim
  | err _ _ _=>exact h1.elim
end
end L3
namespace L4
open PySem PySem.W PyProof.Rows
noncomputable def Tot {α:Type}(n:Nat) (lt:Nat->Nat->Bool):KasT α->(α->Prop)->Prop
 | .ret a,Q=>Q a
 | .ask i j k,Q=>i<n/\j<n/\Tot n lt (k (lt i j)) Q
theorem Tot.mono {α:Type}{n:Nat}{lt:Nat->Nat->Bool}{Q Q':α->Prop}(hq:∀ a,Q a->Q' a):∀ {t:KasT α},Tot n lt t Q->Tot n lt t Q'
 | .ret _,h=>hq _ h
 | .ask _ _ _,h=>⟨h.1,h.2.1,Tot.mono hq h.2.2⟩
theorem Tot.bind {α β:Type}{n:Nat}{lt:Nat->Nat->Bool}{f:α->KasT β}{Q:β->Prop}:∀ {t:KasT α},Tot n lt t (λ a=>Tot n lt (f a) Q)->Tot n lt (t.bind f) Q
 | .ret _,h=>h
 | .ask _ _ _,h=>⟨h.1,h.2.1,Tot.bind h.2.2⟩
section
variable {n:Nat}{lt:Nat->Nat->Bool}
def Le (lt:Nat->Nat->Bool) (a b:Nat):Prop:=lt b a=false
structure Ord (lt:Nat->Nat->Bool):Prop where
 tr:∀ a b c,Le lt a b->Le lt b c->Le lt a c
 as:∀ a b,lt a b=true->Le lt a b
theorem Ord.refl (o:Ord lt) (a:Nat):Le lt a a:=by
 cases h:lt a a with
 | false=>exact h
 | true=>exact o.as a a h
def OkP (n:Nat) (p:Array Nat):Prop:=p.Perm (List.range n).toArray
theorem OkP.size {p:Array Nat}(h:OkP n p):p.size=n:=by rw[Array.Perm.size_eq h];simp
theorem OkP.below {p:Array Nat}(h:OkP n p) {i:Nat}(hi:i<n):p.getD i 0<n:=by
 have hs:=h.size
 have hm:p.getD i 0∈p:=by
  rw[Array.getD_eq_getD_getElem?,Array.getElem?_eq_getElem (by omega)]
  exact Array.getElem_mem (by omega)
 have:p.getD i 0∈(List.range n).toArray:=(Array.Perm.mem_iff h).mp hm
 simpa using this
theorem getD_of {p q:Array Nat}{i j:Nat}(h:p[i]?=q[j]?):p.getD i 0=q.getD j 0:=by rw[Array.getD_eq_getD_getElem?,Array.getD_eq_getD_getElem?,h]
def Srt (lt:Nat->Nat->Bool) (p:Array Nat) (k:Nat):Prop:=∀ i j,i<=j->j<k->Le lt (p.getD i 0) (p.getD j 0)
def Dsc (lt:Nat->Nat->Bool) (p:Array Nat) (k:Nat):Prop:=∀ i j,i<=j->j<k->Le lt (p.getD j 0) (p.getD i 0)
theorem Srt.next (o:Ord lt) {p:Array Nat}{k:Nat}(h:Srt lt p k) (hk:1<=k) (hl:Le lt (p.getD (k-1) 0) (p.getD k 0)):Srt lt p (k+1):=λ i j hij hj=>by
 by_cases hjk:j<k
 ·exact h i j hij hjk
 ·have e:j=k:=by omega
  subst e
  by_cases hi:i=j
  ·subst hi;exact o.refl _
  ·exact o.tr _ _ _ (h i (j-1) (by omega) (by omega)) hl
theorem Dsc.next (o:Ord lt) {p:Array Nat}{k:Nat}(h:Dsc lt p k) (hk:1<=k) (hl:Le lt (p.getD k 0) (p.getD (k-1) 0)):Dsc lt p (k+1):=λ i j hij hj=>by
 by_cases hjk:j<k
 ·exact h i j hij hjk
 ·have e:j=k:=by omega
  subst e
  by_cases hi:i=j
  ·subst hi;exact o.refl _
  ·exact o.tr _ _ _ hl (h i (j-1) (by omega) (by omega))
theorem asc_tot (o:Ord lt) {p:Array Nat}(hp:OkP n p):∀ (f a:Nat),1<=a->a+f<=n->Srt lt p a->
  Tot n lt (kas_asc p f a) λ m=>a<=m/\m<=a+f/\Srt lt p m/\(m=a+f\/lt (p.getD m 0) (p.getD (m-1) 0)=true)
 | 0,a,_,_,hs=>⟨Nat.le_refl _,Nat.le_refl _,hs,.inl rfl⟩
 | f+1,a,h1,h2,hs=>by
  refine⟨hp.below (by omega),hp.below (by omega),?_⟩
  cases c:lt (p.getD a 0) (p.getD (a-1) 0) with
  | true=>exact⟨Nat.le_refl _,by omega,hs,.inr c⟩
  | false=>
   refine Tot.mono ?_ (asc_tot o hp f (a+1) (by omega) (by omega) (hs.next o h1 c))
   rintro m ⟨g1,g2,g3,g4⟩
   exact⟨by omega,by omega,g3,g4.imp (λ e=>by omega) id⟩
theorem rev_ok {p:Array Nat}(hp:OkP n p) (i j:Nat):OkP n (kas_rev p i j):=Array.Perm.trans (mirror_perm _ _ _ _) hp
theorem rev_at {p:Array Nat}(hp:OkP n p) {i j:Nat}(hj:j<=n) (k:Nat):(kas_rev p i j).getD k 0=if i<=k/\k<j then p.getD (i+j-1-k) 0 else p.getD k 0:=by
 have e:=getElem?_mirror_all (xs:=p) (i:=i) (j:=j) (by rw[hp.size];exact hj) k
 split
 ·rename_i h;rw[if_pos h] at e;exact getD_of e
 ·rename_i h;rw[if_neg h] at e;exact getD_of e
theorem rev_eq (o:Ord lt) {p:Array Nat}(hp:OkP n p) {i j:Nat}(hj:j<=n) (he:∀ a b,i<=a->a<j->i<=b->b<j->Le lt (p.getD a 0) (p.getD b 0)) (k:Nat):
  Le lt ((kas_rev p i j).getD k 0) (p.getD k 0)/\Le lt (p.getD k 0) ((kas_rev p i j).getD k 0):=by
 rw[rev_at hp hj]
 split
 ·rename_i h;exact⟨he _ _ (by omega) (by omega) h.1 h.2,he _ _ h.1 h.2 (by omega) (by omega)⟩
 ·exact⟨o.refl _,o.refl _⟩
theorem Dsc.of_eq (o:Ord lt) {p q:Array Nat}{k:Nat}(h:Dsc lt p k) (e:∀ k,Le lt (q.getD k 0) (p.getD k 0)/\Le lt (p.getD k 0) (q.getD k 0)):Dsc lt q k:=λ i j hij hj=>
 o.tr _ _ _ (e j).1 (o.tr _ _ _ (h i j hij hj) (e i).2)
def Blk (lt:Nat->Nat->Bool) (p:Array Nat) (m q:Nat):Prop:=∀ a b,m-(q+1)<=a->a<m->m-(q+1)<=b->b<m->Le lt (p.getD a 0) (p.getD b 0)
theorem desc_tot (o:Ord lt):∀ (f:Nat) (p:Array Nat) (m q:Nat),OkP n p->1<=m->m+f<=n->Dsc lt p m->q+1<=m->Blk lt p m q->
  Tot n lt (kas_desc f p m q) λ r=>OkP n r.1/\m<=r.2.1/\r.2.1<=m+f/\Dsc lt r.1 r.2.1/\r.2.2+1<=r.2.1/\Blk lt r.1 r.2.1 r.2.2
 | 0,p,m,q,hp,_,_,hd,hq,hb=>⟨hp,Nat.le_refl _,Nat.le_refl _,hd,hq,hb⟩
 | f+1,p,m,q,hp,h1,h2,hd,hq,hb=>by
  have one:∀ p':Array Nat,Blk lt p' (m+1) 0:=λ p' a b a1 a2 b1 b2=>by
   have:a=b:=by omega
   subst this;exact o.refl _
  refine⟨hp.below (by omega),hp.below (by omega),?_⟩
  cases c:lt (p.getD m 0) (p.getD (m-1) 0) with
  | true=>
   dsimp only
   rw[if_pos rfl]
   have hl:=o.as _ _ c
   by_cases h0:q>0
   ·rw[if_pos h0]
    have e:=rev_eq o hp (i:=m-(q+1)) (j:=m) (by omega) hb
    have hp':=rev_ok hp (m-(q+1)) m
    refine Tot.mono ?_ (desc_tot o f _ (m+1) 0 hp' (by omega) (by omega) ((hd.of_eq o e).next o h1 (o.tr _ _ _ (e m).1 (o.tr _ _ _ hl (e (m-1)).2))) (by omega) (one _))
    rintro r ⟨a1,a2,a3,a4⟩
    exact⟨a1,by omega,by omega,a4⟩
   ·rw[if_neg h0]
    refine Tot.mono ?_ (desc_tot o f _ (m+1) 0 hp (by omega) (by omega) (hd.next o h1 hl) (by omega) (one _))
    rintro r ⟨a1,a2,a3,a4⟩
    exact⟨a1,by omega,by omega,a4⟩
  | false=>
   dsimp only
   rw[if_neg Bool.false_ne_true]
   refine⟨hp.below (by omega),hp.below (by omega),?_⟩
   cases d:lt (p.getD (m-1) 0) (p.getD m 0) with
   | true=>exact⟨hp,Nat.le_refl _,(by show m<=m+(f+1);omega),hd,hq,hb⟩
   | false=>
    dsimp only
    rw[if_neg Bool.false_ne_true]
    refine Tot.mono ?_ (desc_tot o f _ (m+1) (q+1) hp (by omega) (by omega) (hd.next o h1 d) (by omega) λ a b a1 a2 b1 b2=>?_)
    ·rintro r ⟨a1,a2,a3,a4⟩
     exact⟨a1,by omega,by omega,a4⟩
    ·by_cases ha:a=m
     ·by_cases hb':b=m
      ·subst ha;subst hb';exact o.refl _
      ·subst ha;exact o.tr _ _ _ d (hb (a-1) b (by omega) (by omega) (by omega) (by omega))
     ·by_cases hb':b=m
      ·subst hb';exact o.tr _ _ _ (hb a (b-1) (by omega) (by omega) (by omega) (by omega)) c
      ·exact hb a b (by omega) (by omega) (by omega) (by omega)
theorem tail3_tot (o:Ord lt) {p:Array Nat}{m:Nat}(hp:OkP n p) (h1:1<=m) (h2:m<=n) (hd:Dsc lt p m):Tot n lt (kas_tail3 m n p) λ r=>OkP n r.2/\r.1<=n/\Srt lt r.2 r.1:=by
 refine Tot.bind (Tot.mono ?_ (asc_tot o (rev_ok hp 0 m) (n-m) m h1 (by omega) λ i j hij hj=>?_))
 ·rintro k ⟨a1,a2,a3,_⟩
  exact⟨rev_ok hp 0 m,by omega,a3⟩
 ·rw[rev_at hp h2,rev_at hp h2,if_pos ⟨Nat.zero_le _,by omega⟩,if_pos ⟨Nat.zero_le _,hj⟩]
  exact hd _ _ (by omega) (by omega)
theorem descPart_tot (o:Ord lt) {p:Array Nat}{m:Nat}(hp:OkP n p) (h1:1<=m) (h2:m<n) (hd:Dsc lt p m) (hl:lt (p.getD m 0) (p.getD (m-1) 0)=true):Tot n lt (kas_descPart m n p) λ r=>OkP n r.2/\r.1<=n/\Srt lt r.2 r.1:=by
 refine Tot.bind (Tot.mono ?_ (desc_tot o (n-(m+1)) p (m+1) 0 hp (by omega) (by omega) (hd.next o h1 (o.as _ _ hl)) (by omega) λ a b a1 a2 b1 b2=>?_))
 ·rintro⟨p',m',q'⟩ ⟨a1,a2,a3,a4,a5,a6⟩
  dsimp only at a1 a2 a3 a4 a5 a6 ⊢
  by_cases h0:q'>0
  ·rw[if_pos h0]
   exact tail3_tot o (rev_ok a1 _ _) (by omega) (by omega) (a4.of_eq o (rev_eq o a1 (i:=m'-(q' + 1)) (j:=m') (by omega) a6))
  ·rw[if_neg h0]
   exact tail3_tot o a1 (by omega) (by omega) a4
 ·have:a=b:=by omega
  subst this;exact o.refl _
theorem count_tot (o:Ord lt) {p:Array Nat}(hp:OkP n p) (h1:1<=n):Tot n lt (kas_count n p) λ r=>OkP n r.2/\r.1<=n/\Srt lt r.2 r.1:=by
 refine Tot.bind (Tot.mono ?_ (asc_tot o hp (n-1) 1 (Nat.le_refl _) (by omega) λ i j hij hj=>?_))
 ·rintro m ⟨a1,a2,a3,a4⟩
  by_cases hm:m=n
  ·rw[if_pos (by simp[hm])]
   exact⟨hp,by omega,a3⟩
  ·rw[if_neg (by simp[hm])]
   have hl:lt (p.getD m 0) (p.getD (m-1) 0)=true:=a4.resolve_left (by omega)
   by_cases h2:m>1
   ·rw[if_pos h2]
    refine⟨hp.below (by omega),hp.below (by omega),?_⟩
    cases c:lt (p.getD 0 0) (p.getD (m-1) 0) with
    | true=>exact⟨hp,by omega,a3⟩
    | false=>
     dsimp only
     rw[if_neg Bool.false_ne_true]
     have all:∀ a b,0<=a->a<m->0<=b->b<m->Le lt (p.getD a 0) (p.getD b 0):=λ a b _ ha _ hb=>
      o.tr _ _ _ (a3 a (m-1) (by omega) (by omega)) (o.tr _ _ _ c (a3 0 b (by omega) hb))
     have e:=rev_eq o hp (i:=0) (j:=m) (by omega) all
     refine descPart_tot o (rev_ok hp 0 m) (by omega) (by omega) (λ i j hij hj=>o.tr _ _ _ (e j).1 (o.tr _ _ _ (all _ _ (Nat.zero_le _) hj (Nat.zero_le _) (by omega)) (e i).2)) ?_
     rw[rev_at hp (by omega),rev_at hp (by omega),if_neg (by omega),if_pos (by omega)]
     cases q:lt (p.getD m 0) (p.getD (0+m-1-(m-1)) 0) with
     | true=>rfl
     | false=>
      have:=o.tr _ _ _ (all (m-1) (0+m-1-(m-1)) (Nat.zero_le _) (by omega) (Nat.zero_le _) (by omega)) q
      unfold Le at this
      rw[this] at hl;cases hl
   ·rw[if_neg h2]
    have e:m=1:=by omega
    subst e
    refine descPart_tot o hp (Nat.le_refl _) (by omega) (λ i j hij hj=>?_) hl
    have:i=j:=by omega
    subst this;exact o.refl _
 ·have:i=j:=by omega
  subst this;exact o.refl _
theorem place_tot {p:Array Nat}{k:Nat}(hp:OkP n p) (hk:k<n) (hs:Srt lt p k) (o:Ord lt):∀ (f l r:Nat),r-l<=f->l<=r->r<=k->(∀ i,i<l->Le lt (p.getD i 0) (p.getD k 0))->(∀ i,r<=i->i<k->lt (p.getD k 0) (p.getD i 0)=true)->
  Tot n lt (kas_place p k f l r) λ m=>m<=k/\(∀ i,i<m->Le lt (p.getD i 0) (p.getD k 0))/\(∀ i,m<=i->i<k->lt (p.getD k 0) (p.getD i 0)=true)
 | 0,l,r,h0,h1,h2,ha,hb=>by
  have:l=r:=by omega
  subst this
  exact⟨h2,ha,hb⟩
 | f+1,l,r,h0,h1,h2,ha,hb=>by
  unfold kas_place
  by_cases hlr:l≥r
  ·rw[if_pos hlr]
   have:l=r:=by omega
   subst this
   exact⟨h2,ha,hb⟩
  ·rw[if_neg hlr]
   refine⟨hp.below hk,hp.below (by omega),?_⟩
   cases c:lt (p.getD k 0) (p.getD ((l+r)/2) 0) with
   | true=>
    dsimp only
    rw[if_pos rfl]
    refine place_tot hp hk hs o f l ((l+r)/2) (by omega) (by omega) (by omega) ha λ i hi hik=>?_
    cases q:lt (p.getD k 0) (p.getD i 0) with
    | true=>rfl
    | false=>
     have:=o.tr _ _ _ (hs ((l+r)/2) i hi hik) q
     unfold Le at this
     rw[this] at c;cases c
   | false=>
    dsimp only
    rw[if_neg Bool.false_ne_true]
    refine place_tot hp hk hs o f ((l+r)/2+1) r (by omega) (by omega) h2 (λ i hi=>?_) hb
    exact o.tr _ _ _ (hs i ((l+r)/2) (by omega) (by omega)) c
theorem bin_tot (o:Ord lt):∀ (f:Nat) (p:Array Nat) (k:Nat),OkP n p->k+f=n->Srt lt p k->Tot n lt (kas_bin f p k) λ r=>OkP n r/\Srt lt r n
 | 0,p,k,hp,h1,hs=>by
  have:k=n:=by omega
  subst this
  exact⟨hp,hs⟩
 | f+1,p,k,hp,h1,hs=>by
  refine Tot.bind (Tot.mono ?_ (place_tot hp (by omega) hs o k 0 k (by omega) (Nat.zero_le _) (Nat.le_refl _) (λ i hi=>absurd hi (Nat.not_lt_zero _)) λ i hi hik=>absurd hik (by omega)))
  rintro l ⟨a1,a2,a3⟩
  refine bin_tot o f _ (k+1) (Array.Perm.trans (bubble_perm _ _ _) hp) (by omega) λ i j hij hj=>?_
  have ev:∀ x,(bubble p k (k-l)).getD x 0=if x=l then p.getD k 0 else if l<x/\x<=k then p.getD (x-1) 0 else p.getD x 0:=λ x=>by
   have e:=getElem?_bubble (xs:=p) (src:=k) (by rw[hp.size];omega) (k-l) (by omega) x
   rw[show k-(k-l)=l by omega] at e
   split
   ·rename_i h;rw[if_pos h] at e;exact getD_of e
   ·rename_i h
    rw[if_neg h] at e
    split
    ·rename_i h';rw[if_pos h'] at e;exact getD_of e
    ·rename_i h';rw[if_neg h'] at e;exact getD_of e
  rw[ev i,ev j]
  by_cases hi:i=l
  ·rw[if_pos hi]
   by_cases hj':j=l
   ·rw[if_pos hj'];exact o.refl _
   ·rw[if_neg hj',if_pos ⟨by omega,by omega⟩]
    exact o.as _ _ (a3 (j-1) (by omega) (by omega))
  ·rw[if_neg hi]
   by_cases hj':j=l
   ·rw[if_pos hj',if_neg (by omega)]
    exact a2 i (by omega)
   ·rw[if_neg hj']
    by_cases hi2:l<i/\i<=k
    ·rw[if_pos hi2,if_pos ⟨by omega,by omega⟩]
     exact hs _ _ (by omega) (by omega)
    ·rw[if_neg hi2]
     by_cases hj2:l<j/\j<=k
     ·rw[if_pos hj2]
      exact hs _ _ (by omega) (by omega)
     ·rw[if_neg hj2]
      exact hs _ _ hij (by omega)
theorem sort_tot (o:Ord lt) (h1:1<=n):Tot n lt (kas_sort n) λ r=>OkP n r/\Srt lt r n:=by
 have hp:OkP n (List.range n).toArray:=Array.Perm.refl _
 refine Tot.bind (Tot.mono ?_ (count_tot o hp h1))
 rintro⟨m,p⟩ ⟨a1,a2,a3⟩
 dsimp only at a1 a2 a3 ⊢
 by_cases hm:m<n
 ·rw[if_pos hm]
  refine bin_tot o _ p (max m 1) a1 (by omega) ?_
  by_cases h0:m=0
  ·subst h0
   intro i j hij hj
   have:i=j:=by omega
   subst this;exact o.refl _
  ·rw[show max m 1=m by omega];exact a3
 ·rw[if_neg hm]
  have:m=n:=by omega
  subst this
  exact⟨a1,a3⟩
end
end L4
namespace L4
open PySem PySem.W PySem.Calls PyProof.Rows
section
variable {prog:Program}{w:World}{A:Around}{E:Value->Shared->Prop}{s:Shared}
def Core (prog:Program) (w:World) (A:Around) (E:Value->Shared->Prop) (vs:List Value) (Out:Array Value->Prop) (s6:Shared):Prop:=
 wpAny (model prog w) A (keyKind' vs.toArray) (fun κ s'=>s'=s6/\wpAny (model prog w) A ((sortRuns').run (SortSt.mk' κ (vs.toArray.zip vs.toArray) #[] 7 none))
  (λ r s''=>s''=s6/\failedOf r.2=none/\Out ((arrOf r.2).map (·.2))/\(arrOf r.2).size=vs.length) E s') E s6
theorem list_sort_by {a:Addr}{vs:List Value}{n:Nat}{P:PySem.Fin->Shared->Prop}{Out:Array Value->Prop}(ho:s.heap.get? a=some (seqObj "list" vs.toArray n)) (hz:vs.length<=sizeLine)
  (core:2<=vs.length->∀ s6:Shared,(∀ b o,b≠a->s.heap.get? b=some o->s6.heap.get? b=some o)->Core prog w A E vs Out s6) (short:vs.length<2->Out vs.toArray)
  (fin:∀ out:Array Value,Out out->out.size=vs.length->P (.done (.ret .none)) { s with heap:=sortedHeap s.heap a vs out }):
  wpAny (model prog w) A (Builtin.«list.sort» ⟨[.ref a],[]⟩) P E s:=by
 have ha:a<s.heap.objs.size:=Heap.lt_size ho
 obtain⟨e1,g1⟩:∃ e1,(s.heap.update a (Obj.mapSeq λ _=>#[])).get? a=some (seqObj "list" #[] e1):=⟨_,get?_update_seq ho (λ _=>#[])⟩
 have hz':vs.toArray.size<=sizeLine:=by rw[List.size_toArray];exact hz
 have g6:(((s.heap.update a (Obj.mapSeq λ _=>#[])).push (seqObj "tuple" vs.toArray 0)).push (seqObj "list" #[] 0)).get? a=some (seqObj "list" #[] e1):=Heap.get?_push_of_some _ (Heap.get?_push_of_some _ g1)
 have keep:∀ b o,b≠a->s.heap.get? b=some o->(((s.heap.update a (Obj.mapSeq λ _=>#[])).push (seqObj "tuple" vs.toArray 0)).push (seqObj "list" #[] 0)).get? b=some o:=
  λ b o hb e=>Heap.get?_push_of_some _ (Heap.get?_push_of_some _ (by rw[Heap.get?_update_ne _ _ _ _ hb];exact e))
 rw[list_sort_plain]
 refine wpAny_bind (listItems_at ho rfl (wpAny_bind (listUpdate_at ho rfl (wpAny_bind (seqEpoch_at g1 rfl (wpAny_bind (wpAny_newTuple (wpAny_bind (wpAny_newList (wpAny_holding ?_))) (by simpa using hz))))) hz' (Nat.zero_le _))))
 by_cases h2:vs.toArray.size<2
 ·rw[if_pos h2,if_pos h2]
  have e2:(arrOf (SortSt.mk' general' (vs.toArray.zip vs.toArray) #[] 7 none)).map (·.2)=vs.toArray:=by
   show (vs.toArray.zip vs.toArray).map (·.2)=vs.toArray
   apply Array.ext (by simp)
   intro i h1 h2
   simp
  refine wpAny_bind (wpAny_pure ?_)
  dsimp only
  rw[StateT.run_pure]
  refine wpAny_bind (wpAny_pure ?_)
  dsimp only
  refine wpAny_bind (seqEpoch_at g6 rfl (wpAny_bind (listUpdate_at g6 rfl ?_ (Nat.zero_le _) ?_)))
  ·simp only[bne_self_eq_false,Bool.false_eq_true,if_false]
   have q:=fin _ (e2▸short (by simpa using h2)) (by rw[e2];simp)
   exact wpAny_pure q
  ·show (((arrOf (SortSt.mk' general' (vs.toArray.zip vs.toArray) #[] 7 none)).map (·.2))).size<=sizeLine+1
   rw[e2];omega
 ·rw[if_neg h2,if_neg h2]
  have h2':2<=vs.length:=by simpa using h2
  refine wpAny_bind (wpAny_mono (core h2' _ keep) (fun κ s7 ⟨hs,h7⟩=>?_) λ _ _ z=>z)
  subst hs
  refine wpAny_bind (wpAny_mono h7 (λ r s8 ⟨hs,hf,hout,hsz⟩=>?_) λ _ _ z=>z)
  subst hs
  obtain⟨⟨⟩,st⟩:=r
  refine wpAny_bind (seqEpoch_at g6 rfl (wpAny_bind (listUpdate_at g6 rfl ?_ (Nat.zero_le _) ?_)))
  ·have hf':failedOf st=none:=hf
   rw[hf']
   simp only[bne_self_eq_false,Bool.false_eq_true,if_false]
   exact wpAny_pure (fin _ hout (by rw[Array.size_map];exact hsz))
  ·show ((arrOf st).map (·.2)).size<=sizeLine+1
   rw[Array.size_map]
   have:(arrOf st).size=vs.length:=hsz
   omega
end
end L4
namespace L4
open PySem PySem.W PySem.Calls PyProof.Rows L2
theorem lex_as:∀ a b:List Int,HT.lexLt a b=true->HT.lexLt b a=false
 | [],[],h=>by cases h
 | [],_::_,_=>rfl
 | _::_,[],h=>by cases h
 | x::a,y::b,h=>by
  rw[HT.lexLt_cons] at h ⊢
  by_cases e:x=y
  ·subst e;rw[if_pos rfl] at h ⊢;exact lex_as a b h
  ·rw[if_neg e] at h;rw[if_neg (Ne.symm e)]
   have:=of_decide_eq_true h
   exact decide_eq_false (by omega)
theorem lex_anti:∀ a b:List Int,HT.lexLt a b=false->HT.lexLt b a=false->a=b
 | [],[],_,_=>rfl
 | [],_::_,h,_=>by cases h
 | _::_,[],_,h=>by cases h
 | x::a,y::b,h,h'=>by
  rw[HT.lexLt_cons] at h h'
  by_cases e:x=y
  ·subst e;rw[if_pos rfl] at h h';rw[lex_anti a b h h']
  ·rw[if_neg e] at h;rw[if_neg (Ne.symm e)] at h'
   have h1:=of_decide_eq_false h
   have h2:=of_decide_eq_false h'
   omega
theorem lex_tr:∀ a b c:List Int,HT.lexLt b a=false->HT.lexLt c b=false->HT.lexLt c a=false
 | [],[],[],_,_=>rfl
 | [],[],_::_,_,h=>h
 | [],_::_,[],_,h=>by cases h
 | [],_::_,_::_,_,_=>rfl
 | _::_,[],_,h,_=>by cases h
 | _::_,_::_,[],_,h=>by cases h
 | x::a,y::b,z::c,h,h'=>by
  rw[HT.lexLt_cons] at h h' ⊢
  by_cases e1:y=x
  ·subst e1
   rw[if_pos rfl] at h
   by_cases e2:z=y
   ·subst e2;rw[if_pos rfl] at h' ⊢;exact lex_tr a b c h h'
   ·rw[if_neg e2] at h' ⊢;exact h'
  ·rw[if_neg e1] at h
   have h1:=of_decide_eq_false h
   by_cases e2:z=y
   ·subst e2;rw[if_neg e1];exact h
   ·rw[if_neg e2] at h'
    have h2:=of_decide_eq_false h'
    rw[if_neg (by omega)]
    exact decide_eq_false (by omega)
theorem perm_eq {α:Type}{r:α->α->Prop}(an:∀ a b,r a b->r b a->a=b):∀ {l₁ l₂:List α},l₁.Perm l₂->l₁.Pairwise r->l₂.Pairwise r->l₁=l₂
 | [],l₂,h,_,_=>(List.nil_perm.mp h).symm
 | a::l₁,[],h,_,_=>absurd (List.perm_nil.mp h) (by simp)
 | a::l₁,b::l₂,h,h1,h2=>by
  have hab:a=b:=by
   have ha:a∈b::l₂:=h.mem_iff.mp List.mem_cons_self
   have hb:b∈a::l₁:=h.mem_iff.mpr List.mem_cons_self
   rcases List.mem_cons.mp ha with e | ha
   ·exact e
   ·rcases List.mem_cons.mp hb with e | hb
    ·exact e.symm
    ·exact an _ _ (List.rel_of_pairwise_cons h1 hb) (List.rel_of_pairwise_cons h2 ha)
  subst hab
  rw[perm_eq an (List.Perm.cons_inv h) (List.pairwise_cons.mp h1).2 (List.pairwise_cons.mp h2).2]
noncomputable def sortR (rows:List (List Int)):List (List Int):=rows.mergeSort λ a b=>!HT.lexLt b a
theorem sortR_perm (rows:List (List Int)):(sortR rows).Perm rows:=List.mergeSort_perm _ _
theorem sortR_sorted (rows:List (List Int)):(sortR rows).Pairwise λ a b=>HT.lexLt b a=false:=by
 have:=List.pairwise_mergeSort (le:=λ a b:List Int=>!HT.lexLt b a) (λ a b c h1 h2=>by simp at h1 h2 ⊢;exact lex_tr a b c h1 h2)
  (λ a b=>by
   cases h:HT.lexLt b a with
   | false=>simp
   | true=>simp[lex_as b a h]) rows
 exact this.imp λ h=>by simpa using h
theorem sortR_unique {rows out:List (List Int)}(hp:out.Perm rows) (hs:out.Pairwise λ a b=>HT.lexLt b a=false):out=sortR rows:=
 perm_eq (λ a b h1 h2=>lex_anti a b h2 h1) (hp.trans (sortR_perm rows).symm) hs (sortR_sorted rows)
noncomputable def rowLt (rows:List (List Int)) (i j:Nat):Bool:=HT.lexLt (rows.getD i []) (rows.getD j [])
theorem rowLt_ord (rows:List (List Int)):Ord (rowLt rows):=⟨λ _ _ _ h1 h2=>lex_tr _ _ _ h1 h2,λ _ _ h=>lex_as _ _ h⟩
section
variable {prog:Program}{w:World}{A:Around}{E:Value->Shared->Prop}{s:Shared}{Q:Bool->Shared->Prop}
theorem katlex {b:Bool}:∀ (ns ms:List Int) (us ws:List Value) (i:Nat),IntsAre us ns->IntsAre ws ms->Q (HT.lexLt ns ms) s->KatLex prog w A b (decide (ns.length<ms.length)) Q (us.zip ws) i s
 | [],[],_,_,_,.nil,.nil,h=>kat_nil (by simpa [HT.lexLt] using h)
 | [],_::_,_,_,_,.nil,.cons _ _ _,h=>kat_nil (by simpa [HT.lexLt] using h)
 | _::_,[],_,_,_,.cons _ _ _,.nil,h=>kat_nil (by simpa [HT.lexLt] using h)
 | n::ns,m::ms,_,_,i,.cons _ t hu,.cons _ u hw,h=>by
  rw[HT.lexLt_cons] at h
  refine kat_cons (SeqAt.EqAt.int_int n t m u prog w _ _ (kat_go (λ e=>kat_yes ?_) λ e=>kat_no ?_))
  ·have e':n=m:=by simpa using e
   rw[if_pos e'] at h
   rw[show decide ((n::ns).length<(m::ms).length)=decide (ns.length<ms.length) by simp]
   exact katlex ns ms _ _ (i+1) hu hw h
  ·have e':¬ n=m:=by simpa using e
   rw[if_neg e'] at h
   cases b&&i == 0 with
   | true=>exact kat_lt_int h
   | false=>exact kat_one _ _ (lt_int h)
def RowsAt (h:Heap):List Value->List (List Int)->Prop:=Paired λ v r=>r≠[]/\∃ b o its n,v=.ref b/\h.get? b=some o/\o.cls=.type "tuple"/\o.data=.seq its n/\IntsAre its.toList r
theorem RowsAt.firsts {h:Heap}:∀ {vs:List Value}{rows:List (List Int)},RowsAt h vs rows->∃ fs,KatTups h vs fs/\fs.length=vs.length/\∀ v∈fs,∃ n t,v=Value.int n t
 | _,_,.nil=>⟨[],KatTups.nil,rfl,λ _ hv=>absurd hv (by simp)⟩
 | _,_,.cons ⟨hne,b,o,its,n,hv,ho,hc,hd,hi⟩ r=>by
  obtain⟨fs,h1,h2,h3⟩:=RowsAt.firsts r
  subst hv
  obtain⟨its⟩:=its
  cases hi with
  | nil=>exact absurd rfl hne
  | cons k t _=>exact⟨.int k t::fs,KatTups.cons ho hc hd rfl h1,by simp[h2],λ v hv=>(List.mem_cons.mp hv).elim (λ e=>⟨k,t,e⟩) (h3 v)⟩
theorem Paired.at' {α β:Type}{F:α->β->Prop}:∀ {l₁:List α}{l₂:List β}{i:Nat},Paired F l₁ l₂->i<l₁.length->∀ (d:α) (e:β),F (l₁.getD i d) (l₂.getD i e)
 | _,_,_,.nil,h,_,_=>absurd h (by simp)
 | _,_,0,.cons r _,_,_,_=>r
 | _,_,i+1,.cons _ t,h,d,e=>by simpa using Paired.at' (i:=i) t (by simpa using h) d e
theorem RowsAt.ask {vs:List Value}{rows:List (List Int)}{b:Bool}(r:RowsAt s.heap vs rows) {i j:Nat}(hi:i<vs.length) (hj:j<vs.length) {C:Bool->Shared->Prop}(h:C (rowLt rows i j) s):kas_ask prog w A (tuples' b) vs i j C s:=by
 obtain⟨_,b1,o1,its1,n1,e1,g1,_,d1,q1⟩:=Paired.at' r hi Value.none []
 obtain⟨_,b2,o2,its2,n2,e2,g2,_,d2,q2⟩:=Paired.at' r hj Value.none []
 unfold kas_ask
 rw[e1,e2]
 refine kat_lt g1 d1 g2 d2 ?_
 have l1:=q1.length
 have l2:=q2.length
 rw[Array.length_toList] at l1 l2
 rw[l1,l2]
 exact katlex _ _ _ _ 0 q1 q2 h
theorem wp_of_tot {α:Type}{n:Nat}{lt:Nat->Nat->Bool}{cmp:Nat->Nat->(Bool->Shared->Prop)->Shared->Prop}{Q:α->Shared->Prop}(hc:∀ i j C,i<n->j<n->C (lt i j) s->cmp i j C s):∀ {t:KasT α},Tot n lt t (λ a=>Q a s)->t.kasWp cmp Q s
 | .ret _,h=>h
 | .ask i j _,h=>hc i j _ h.1 h.2.1 (wp_of_tot hc h.2.2)
def OutR (vs:List Value) (rows:List (List Int)) (out:Array Value):Prop:=
 ∃ idx:List Nat,idx.Perm (List.range vs.length)/\out.toList=idx.map (λ i=>vs.getD i Value.none)/\(idx.map λ i=>rows.getD i []).Pairwise λ a b=>HT.lexLt b a=false
theorem srt_pairwise {rows:List (List Int)}{p:Array Nat}{n:Nat}(hn:p.size=n) (h:Srt (rowLt rows) p n):(p.toList.map λ i=>rows.getD i []).Pairwise λ a b=>HT.lexLt b a=false:=by
 rw[List.pairwise_map,List.pairwise_iff_getElem]
 intro i j hi hj hij
 have:=h i j (Nat.le_of_lt hij) (by rw[<- hn];simpa using hj)
 simp only[Array.length_toList] at hi hj
 unfold Le rowLt at this
 simpa [Array.getD_eq_getD_getElem?,hi,hj] using this
theorem core_rows {vs:List Value}{rows:List (List Int)}(r:RowsAt s.heap vs rows) (h2:2<=vs.length) (h64:vs.length<64):Core prog w A E vs (OutR vs rows) s:=by
 obtain⟨fs,t,hl,hf⟩:=r.firsts
 unfold Core
 refine kat_kind (T:=.type "int") t (by omega) (λ v hv=>?_) rfl ⟨rfl,?_⟩
 ·obtain⟨n,t,rfl⟩:=hf v hv
  exact Looks.of_pure rfl
 ·refine kat_run (ks:=vs) (Q:=λ st s''=>s''=s/\failedOf st=none/\OutR vs rows ((arrOf st).map (·.2))/\(arrOf st).size=vs.length) (G:=λ p s''=>s''=s/\OkP vs.length p/\Srt (rowLt rows) p vs.length) rfl h2 h64 (λ p st s' hs ha hfl hg=>?_) ?_
  ·obtain⟨h1,h3,h4⟩:=hg
   refine⟨h1,hfl,⟨p.toList,?_,?_,srt_pairwise hs h4⟩,by rw[ha,Array.size_map];exact hs⟩
   ·have:=Array.Perm.toList h3
    simpa using this
   ·rw[kat_snds rfl ha]
  ·exact wp_of_tot (λ i j C hi hj hC=>r.ask hi hj hC) (Tot.mono (λ p hp=>⟨rfl,hp⟩) (sort_tot (rowLt_ord rows) (by omega)))
end
section
variable {X:Cx}
end
end L4
namespace L2
open PySem PySem.Spec PyProof.Rows
noncomputable def isT (ty T:String):Bool:=ty == T||(ty == "bool"&&T == "int")
noncomputable def tyOk (ty T:String):Bool:=PySem.W.kitMeta T&&decide ((fastBuiltinMro ty).map (λ l=>l.contains (Value.type T))=some (isT ty T))
theorem tyOk_all:(["NoneType","bool","int","str","tuple","list","dict"].all λ ty=>["int","bool","tuple","list","str"].all λ T=>tyOk ty T)=true:=by decide +kernel
theorem kit_t {K:PySem.W.Frag}{ty T:String}(h:tyOk ty T=true):PySem.W.kitOne K (.type ty) (.type T)=some (isT ty T):=by
 unfold tyOk at h
 rw[Bool.and_eq_true] at h
 unfold PySem.W.kitOne
 split
 ·rename_i e
  have e':ty=T:=by have:=eq_of_beq e;injection this
  subst e'
  simp[isT]
 ·show (if PySem.W.kitMeta T=true then PySem.W.subIn K (.type ty) (.type T) else none)=_
  rw[if_pos h.1]
  exact of_decide_eq_true h.2
noncomputable def TyN (K:PySem.W.Frag) (H:Hp):V->String->Prop
 | .non,t=>t="NoneType"
 | .bl _,t=>t="bool"
 | .int _,t=>t="int"
 | .str _,t=>t="str"
 | .ref a,t=>(t="tuple"/\∃ xs,SqT K H a xs)\/(t="list"/\∃ xs,SqL K H a xs)\/(t="dict"/\∃ kvs,H a=some (.dK kvs))
 | _,_=>False
theorem call_inst {X:Cx}:CallR X (.builtin "isinstance") (λ xs H Q=>∃ x T ty,xs=[x,.ty T]/\TyN X.K H x ty/\tyOk ty T=true/\Q (.bl (isT ty T)) H):=by
 intro pins s σ H xs us Q I r h
 obtain⟨x,T,ty,rfl,hx,hT,q⟩:=h
 obtain⟨u,c,rfl,ru,rc⟩:=vals2 r
 cases (show c=Value.type T from rc)
 have e:PySem.W.kitOne X.K (.type ty) (.type T)=some (isT ty T):=kit_t hT
 have fin:∀ tk,EP X pins σ Q (.bool (isT ty T)) { s with toks:=tk }:=λ tk=>⟨.bl _,H,I.tok tk,rfl,q⟩
 cases x with
 | non=>cases (show u=Value.none from ru);cases (show ty=_ from hx);exact PySem.W.kia_one PySem.W.kitx_none I.kIn True.intro e (λ z=>nomatch z) fin
 | bl y=>cases (show u=Value.bool y from ru);cases (show ty=_ from hx);exact PySem.W.kia_one PySem.W.kitx_bool I.kIn True.intro e (λ z=>nomatch z) fin
 | int i=>obtain⟨t,rfl⟩:=(show ∃ t,u=Value.int i t from ru);cases (show ty=_ from hx);exact PySem.W.kia_one PySem.W.kitx_int I.kIn True.intro e (λ z=>nomatch z) fin
 | str y=>obtain⟨t,rfl⟩:=(show ∃ t,u=Value.str y t from ru);cases (show ty=_ from hx);exact PySem.W.kia_one PySem.W.kitx_str I.kIn True.intro e (λ z=>nomatch z) fin
 | ref a=>
  cases (show u=Value.ref a from ru)
  rcases hx with ⟨rfl,ys,hq⟩ | ⟨rfl,ys,hq⟩ | ⟨rfl,kvs,hq⟩
  ·obtain⟨its,_,⟨o,h1,h2,_⟩,_⟩:=I.tuple hq
   exact PySem.W.kia_one PySem.W.kitx_tuple I.kIn ⟨o,h1,h2⟩ e (λ z=>nomatch z) fin
  ·obtain⟨its,_,⟨o,n,h1,h2,_⟩,_⟩:=I.list hq
   exact PySem.W.kia_one PySem.W.kitx_list I.kIn ⟨o,h1,h2⟩ e (λ z=>nomatch z) fin
  ·obtain⟨_,_,vs,_,p⟩:=(show ObjOk X.prog X.w H s.heap a (.dK kvs) from I.hok a _ hq)
   obtain⟨o,es,ep,h1,h2,_⟩:=p
   exact PySem.W.kia_one PySem.W.kitx_dict I.kIn ⟨o,h1,h2.1⟩ e (λ z=>nomatch z) fin
 | byt _=>exact hx.elim
 | flt _=>exact hx.elim
 | ty _=>exact hx.elim
end L2
namespace L3
open PySem PySem.Spec L2
open PyProof.Rows hiding St
section
variable {X:Cx}{K:PySem.W.Frag}{a b c e:Expr}{es:List Expr}{ta tb tc te:TDE}{tA:TDA}{pos p q:Pos}
theorem pd_len_ (hm:X.mg "len"=none) (ha:PDA X (e::es) tA) (hg:Gl X "len":=by rfl) (he:starEach (e::es) X.env=(false,eval e X.env)::starEach es X.env:=by rfl) (hpl:(backTo pos (starEach es X.env)).any (·.1)=false:=by rfl):PD X (.Call (.Name "len" p) (e::es) [] pos) (dCB fLen tA):=
 pd_of_callB (pe_callB (call_len_seq.or call_len_str) hg hm PySem.boot_len ha.pa (by decide) (by decide) he hpl) fLen.mo fLen.fits ha.mo
theorem pd_tuple_ (hm:X.mg "tuple"=none) (ha:PDA X (e::es) tA) (hg:Gl X "tuple":=by rfl) (he:starEach (e::es) X.env=(false,eval e X.env)::starEach es X.env:=by rfl) (hpl:(backTo pos (starEach es X.env)).any (·.1)=false:=by rfl):PD X (.Call (.Name "tuple" p) (e::es) [] pos) (dCB fTuple tA):=
 pd_of_callB (pe_callTy call_tuple_of hg hm PyProof.Rows.boot_tuple ha.pa (by decide) (by decide) he hpl) fTuple.mo fTuple.fits ha.mo
abbrev fMin:RDn:=fII λ i j=>.int (if j<i then j else i)
theorem pd_min_ (hm:X.mg "min"=none) (ha:PDA X (e::es) tA) (hc:X.calm=true:=by rfl) (hg:Gl X "min":=by rfl) (he:starEach (e::es) X.env=(false,eval e X.env)::starEach es X.env:=by rfl) (hpl:(backTo pos (starEach es X.env)).any (·.1)=false:=by rfl):PD X (.Call (.Name "min" p) (e::es) [] pos) (dCB fMin tA):=
 pd_of_callB (pe_callB (call_min2 hc) hg hm boot_min ha.pa (by decide) (by decide) he hpl) fII.mo (fII.fits λ _ _ _=>by simp only[RepD]) ha.mo
noncomputable def rowD (r:List Int):D:=.tup (r.map D.int)
theorem rows_paired {H:Hp}:∀ {rows:List (List Int)}{ys:List V},RepDs K H (rows.map rowD) ys->(∀ r∈rows,r≠[])->Paired (λ v r=>r≠[]/\∃ b,v=V.ref b/\SqT K H b (r.map V.int)) ys rows
 | [],ys,h,_=>by simp only[List.map_nil,RepDs] at h;subst h;exact .nil
 | r::rows,ys,h,hn=>by
  rw[List.map_cons] at h
  simp only[RepDs,rowD,RepD] at h
  obtain⟨x,ys',rfl,⟨a,xs,rfl,g1,g2⟩,h3⟩:=h
  rw[g2.ints] at g1
  exact .cons ⟨hn r List.mem_cons_self,a,rfl,g1⟩ (rows_paired h3 λ r' hr=>hn r' (List.mem_cons_of_mem _ hr))
theorem map_getD_perm {α:Type}{rows:List α}{d:α}{idx:List Nat}(h:idx.Perm (List.range rows.length)):(idx.map λ i=>rows.getD i d).Perm rows:=by
 refine (h.map _).trans ?_
 have:(List.range rows.length).map (λ i=>rows.getD i d)=rows:=by
  refine List.ext_getElem (by simp) λ i h1 h2=>?_
  simp[h2]
 rw[this]
theorem RepDs.perm {H:Hp}{rows:List (List Int)}{ys:List V}(h:RepDs K H (rows.map rowD) ys):∀ {idx:List Nat},(∀ i∈idx,i<rows.length)->RepDs K H ((idx.map λ i=>rows.getD i []).map rowD) (idx.map λ i=>ys.getD i .non)
 | [],_=>.nil
 | i::idx,hi=>by
  have h1:=hi i List.mem_cons_self
  obtain⟨x,e1,e2⟩:=h.get (i:=i) (d:=rowD rows[i]) (by simp[h1])
  refine .cons ?_ (RepDs.perm h λ j hj=>hi j (List.mem_cons_of_mem _ hj))
  have e3:ys.getD i .non=x:=by simp[e1]
  have e4:rows.getD i []=rows[i]:=by simp[h1]
  show RepD K H (rowD (rows.getD i [])) (ys.getD i .non)
  rw[e3,e4];exact e2
theorem pdi_range1_ {tg:Expr}(hm:X.mg "range"=none) (ha:PDA X [a] tA) (hg:Gl X "range":=by rfl) (hs:starEach [a] X.env=[(false,eval a X.env)]:=by rfl):PDI X tg (.Call (.Name "range" p) [a] [] pos) (jRng1 tA):=pdi_range1 (pi_range1 hg hm ha.pa hs) ha.mo
theorem pdi_range2_ {tg:Expr}(hm:X.mg "range"=none) (ha:PDA X [a,b] tA) (hg:Gl X "range":=by rfl) (hs:starEach [a,b] X.env=[(false,eval a X.env),(false,eval b X.env)]:=by rfl) (hs2:starEach [b] X.env=[(false,eval b X.env)]:=by rfl):PDI X tg (.Call (.Name "range" p) [a,b] [] pos) (jRng2 tA):=pdi_range2 (pi_range2 hg hm ha.pa hs hs2) ha.mo
noncomputable def tyD (d:D) (S:SS):Option String:=match d with
 | .non=>some "NoneType"
 | .bl _=>some "bool"
 | .int _=>some "int"
 | .str _=>some "str"
 | .tup _=>some "tuple"
 | .rol _=>some "list"
 | .ref p=>match S p with
  | some (.lst _)=>some "list"
  | some (.dct _)=>some "dict"
  | none=>none
 | .err _ _ _=>none
def dInst (T:String) (te:TDE):TDE:=fun δ S Q=>te δ S λ x S1=>match tyD x S1 with
 | some ty=>Q (.bl (isT ty T)) S1
 | none=>False
theorem tyD.ok {H:Hp}{d:D}{v:V}{S:SS}{ty:String}(r:RepD K H d v) (p:RepH K H S) (h:tyD d S=some ty):TyN K H v ty/\ty∈["NoneType","bool","int","str","tuple","list","dict"]:=by
 cases d with
 | non=>simp only[RepD] at r;subst r;cases h;exact⟨rfl,by simp⟩
 | bl _=>simp only[RepD] at r;subst r;cases h;exact⟨rfl,by simp⟩
 | int _=>simp only[RepD] at r;subst r;cases h;exact⟨rfl,by simp⟩
 | str _=>simp only[RepD] at r;subst r;cases h;exact⟨rfl,by simp⟩
 | err _ _ _=>cases h
 | tup ds=>
  simp only[RepD] at r
  obtain⟨a,xs,rfl,g1,_⟩:=r
  cases h
  exact⟨.inl ⟨rfl,xs,g1⟩,by simp⟩
 | rol ds=>
  simp only[RepD] at r
  obtain⟨a,xs,rfl,g1,_⟩:=r
  cases h
  exact⟨.inr (.inl ⟨rfl,xs,g1.sq⟩),by simp⟩
 | ref a=>
  simp only[RepD] at r
  subst r
  unfold tyD at h
  dsimp only at h
  split at h
  ·rename_i e
   cases h
   obtain⟨xs,g1,_⟩:=p _ _ e
   exact⟨.inr (.inl ⟨rfl,xs,SqL.of g1⟩),by simp⟩
  ·rename_i e
   cases h
   obtain⟨xs,g1,_⟩:=p _ _ e
   exact⟨.inr (.inr ⟨rfl,xs,g1⟩),by simp⟩
  ·cases h
theorem pd_inst {T:String}{x:Str}(hT:T∈["int","bool","tuple","list","str"]) (hm:X.mg "isinstance"=none) (hm2:X.mg x=none) (hv:bootBuiltins x=some (.type T)) (hg2:Gl X x) (hn:x≠"__name__") (hd:(x == ("__debug__":Str))=false) (he:PD X e te) (hg:Gl X "isinstance":=by rfl)
  (h1:starEach (e::[.Name x q]) X.env=(false,eval e X.env)::starEach [.Name x q] X.env:=by rfl) (h2:(backTo pos (starEach [.Name x q] X.env)).any (·.1)=false:=by rfl) (h3:starEach [.Name x q] X.env=(false,eval (.Name x q) X.env)::starEach [] X.env:=by rfl):
  PD X (.Call (.Name "isinstance" p) [e,.Name x q] [] pos) (dInst T te):=by
 refine⟨fun δ S Q Q' hq z=>he.mo δ S _ _ (λ y S1 z=>?_) z,PE.imp (pe_callB call_inst hg hm boot_isinstance (pa_cons he.pe (pa_cons (pe_bltn (v:=.ty T) hg2 hm2 hv rfl hn hd) pa_nil h3) h1) (by decide) (by decide) h1 h2) fun σ H Q hu=>?_⟩
 ·split at z
  ·exact hq _ _ z
  ·exact z
 ·obtain⟨δ,S,r1,r2,z⟩:=hu
  refine upE.go he.mo r1 r2 z λ y S1 v H1 z1 q1 e1 p1=>?_
  split at z1
  ·rename_i ty ht
   obtain⟨g1,g2⟩:=tyD.ok q1 p1 ht
   refine⟨v,T,ty,rfl,g1,?_,z1 _ H1 (by simp only[RepD]) e1 p1⟩
   exact List.all_eq_true.mp (List.all_eq_true.mp tyOk_all ty g2) T hT
  ·exact z1.elim
theorem pd_isinst_bool (T:Bt X.mg) (he:PD X e te) (hg:Gl X "isinstance":=by rfl) (hg2:Gl X "bool":=by rfl) (h1:starEach (e::[.Name "bool" q]) X.env=(false,eval e X.env)::starEach [.Name "bool" q] X.env:=by rfl) (h2:(backTo pos (starEach [.Name "bool" q] X.env)).any (·.1)=false:=by rfl) (h3:starEach [.Name "bool" q] X.env=(false,eval (.Name "bool" q) X.env)::starEach [] X.env:=by rfl):
  PD X (.Call (.Name "isinstance" p) [e,.Name "bool" q] [] pos) (dInst "bool" te):=pd_inst (by simp) T.isinstance T.bool PyProof.Rows.boot_bool hg2 (by decide) (by decide) he hg h1 h2 h3
theorem pd_isinst_int (T:Bt X.mg) (he:PD X e te) (hg:Gl X "isinstance":=by rfl) (hg2:Gl X "int":=by rfl) (h1:starEach (e::[.Name "int" q]) X.env=(false,eval e X.env)::starEach [.Name "int" q] X.env:=by rfl) (h2:(backTo pos (starEach [.Name "int" q] X.env)).any (·.1)=false:=by rfl) (h3:starEach [.Name "int" q] X.env=(false,eval (.Name "int" q) X.env)::starEach [] X.env:=by rfl):
  PD X (.Call (.Name "isinstance" p) [e,.Name "int" q] [] pos) (dInst "int" te):=pd_inst (by simp) T.isinstance T.int PyProof.Rows.boot_int hg2 (by decide) (by decide) he hg h1 h2 h3
theorem pd_isinst_tuple (T:Bt X.mg) (he:PD X e te) (hg:Gl X "isinstance":=by rfl) (hg2:Gl X "tuple":=by rfl) (h1:starEach (e::[.Name "tuple" q]) X.env=(false,eval e X.env)::starEach [.Name "tuple" q] X.env:=by rfl) (h2:(backTo pos (starEach [.Name "tuple" q] X.env)).any (·.1)=false:=by rfl) (h3:starEach [.Name "tuple" q] X.env=(false,eval (.Name "tuple" q) X.env)::starEach [] X.env:=by rfl):
  PD X (.Call (.Name "isinstance" p) [e,.Name "tuple" q] [] pos) (dInst "tuple" te):=pd_inst (by simp) T.isinstance T.tuple PyProof.Rows.boot_tuple hg2 (by decide) (by decide) he hg h1 h2 h3
theorem pd_m_append {o:Expr}{to:TDE}{apos cpos:Pos}(ho:PD X o to) (he:PD X e te)
  (hbase:attributeBase o "append" X.env (eval o X.env)=eval o X.env:=by rfl)
  (hfew:((backTo cpos (starEach [e] X.env)).all (λ x=>!x.1)&&(backToKw cpos (keywordEach [] X.env)).all (λ x=>x.1.isSome)
   && decide ([e].length+([]:List Keyword).length+(if ([]:List Keyword).isEmpty then 0 else 1)<30))=true:=by rfl)
  (hline:(apos.endLine == cpos.line)=true:=by rfl) (hs:starEach [e] X.env=(false,eval e X.env)::starEach [] X.env:=by rfl) (hplain:(backTo cpos (starEach [] X.env)).any (·.1)=false:=by rfl):
  PD X (.Call (.Attribute o "append" apos) [e] [] cpos) (dAppend to te):=
 pd_append (o:=o) (e:=e) (pe_bm PySem.F.plainAttrs_list PySem.F.slot_list_append PySem.F.type_list_append mt_append ho.pe (pa_cons he.pe pa_nil hs) hbase hfew hline hs hplain) ho.mo he.mo
structure FD (P:Program) (w:World) (K:PySem.W.Frag) (mg:Str->Option Value) (base:Heap) (x:Str) (k:Nat) (ps:List Str) (sp:SpD):Prop where
 ex:∃ (f:Addr) (fd:FuncData),FnOk P w K mg base CX0 k f fd ps (upP K sp)/\mg x=some (.ref f)/\PySem.W.keepIn K (.ref f)=true/\Binds K fd ps []
 mo:MoP sp
theorem pd_callF {x:Str}{k:Nat}{ps:List Str}{sp:SpD}(F:FD X.prog X.w X.K X.mg X.base x k ps sp) (hr:Room k X.A) (ha:PDA X (e::es) tA) (hg:Gl X x:=by rfl) (hdb:(x == ("__debug__":Str))=false:=by decide)
  (he:starEach (e::es) X.env=(false,eval e X.env)::starEach es X.env:=by rfl) (hpl:(backTo pos (starEach es X.env)).any (·.1)=false:=by rfl):PD X (.Call (.Name x p) (e::es) [] pos) (dCall sp tA):=by
 obtain⟨⟨f,fd,h1,h2,h3,h4⟩,hm⟩:=F
 exact pd_call (E:=E0) (pe_call h1 hr hg h2 h3 h4 .nil pass0 ha.pa hdb he hpl) hm ha.mo
end
end L3
namespace L3
open PySem PySem.Spec L2
open PyProof.Rows hiding St
section
variable {P:Program}{w:World}{K:PySem.W.Frag}{mg:Str->Option Value}{base:Heap}{f:Addr}{fd:FuncData}
end
theorem fTuple_ref {S:SS}{p:Addr}{ds:List D}{Q:DK}(e:S p=some (.lst ds)) (h:Q (.tup ds) S):fTuple [.ref p] S Q:=by
 unfold fTuple;dsimp only;rw[e];exact h
theorem fLen_seq {S:SS}{d:D}{ds:List D}{Q:DK}(e:seqOf d S=some ds) (h:Q (.int ds.length) S):fLen [d] S Q:=by
 unfold fLen;dsimp only;rw[e];exact h
theorem tru_ref {S:SS}{p:Addr}{ds:List D}{Q:Bool->SS->Prop}(e:S p=some (.lst ds)) (h:Q (!ds.isEmpty) S):tru (.ref p) S Q:=by
 unfold tru;dsimp only;rw[e];exact h
theorem fIx_ref {S:SS}{p:Addr}{ds:List D}{i:Int}{d:D}{Q:DK}(e:S p=some (.lst ds)) (e2:L2.atI ds i=some d) (h:Q d S):fIx (.ref p) (.int i) S Q:=by
 unfold fIx;dsimp only;rw[e];dsimp only;rw[e2];exact h
theorem fIx_tup {S:SS}{ds:List D}{i:Int}{d:D}{Q:DK}(e2:L2.atI ds i=some d) (h:Q d S):fIx (.tup ds) (.int i) S Q:=by
 unfold fIx;dsimp only;rw[e2];exact h
theorem fIx_rol {S:SS}{ds:List D}{i:Int}{d:D}{Q:DK}(e2:L2.atI ds i=some d) (h:Q d S):fIx (.rol ds) (.int i) S Q:=by
 unfold fIx;dsimp only;rw[e2];exact h
end L3
namespace L3
open PySem PySem.Spec L2
open PyProof.Rows hiding St
inductive T where
 | non | bl (b:Bool) | int (i:Int) | str (x:Str) | tup (ts:List T) | lst (ts:List T) | dic | err (c f:Str) (t:T)
mutual
noncomputable def eqT:T->T->Bool
 | .non,.non=>true
 | .bl a,.bl b=>a == b
 | .bl a,.int b=>(if a then 1 else 0) == b
 | .int a,.bl b=>a == (if b then 1 else 0)
 | .int a,.int b=>a == b
 | .str a,.str b=>a == b
 | .tup a,.tup b=>eqTs a b
 | .lst a,.lst b=>eqTs a b
 | .dic,.dic=>true
 | .err a b t,.err c d u=>a == c&&(b == d&&eqT t u)
 | _,_=>false
noncomputable def eqTs:List T->List T->Bool
 | [],[]=>true
 | a::as,b::bs=>eqT a b&&eqTs as bs
 | _,_=>false
end
mutual
noncomputable def dep:T->Nat
 | .tup ts=>1+deps ts
 | .lst ts=>1+deps ts
 | .dic=>cLine
 | .err _ _ _=>cLine
 | _=>0
noncomputable def deps:List T->Nat
 | []=>0
 | t::ts=>max (dep t) (deps ts)
end
noncomputable def onlyI:List T->Bool
 | []=>true
 | .int _::ts=>onlyI ts
 | _=>false
theorem onlyI_ints (ns:List Int):onlyI (ns.map T.int)=true:=by
 induction ns with
 | nil=>rfl
 | cons n ns ih=>exact ih
mutual
noncomputable def Sn (S:SS):T->D->Prop
 | .non,d=>d=.non
 | .bl b,d=>d=.bl b
 | .int i,d=>d=.int i
 | .str x,d=>d=.str x
 | .tup ts,d=>∃ ds,d=.tup ds/\Sns S ts ds
 | .lst ts,d=>∃ ds,((d=.rol ds/\onlyI ts=true)\/∃ a,d=.ref a/\S a=some (.lst ds))/\Sns S ts ds
 | .dic,d=>∃ a kvs,(d=.ref a/\kvs=[])/\S a=some (.dct kvs)
 | .err c f t,d=>∃ x,d=.err c f x/\Sn S t x
noncomputable def Sns (S:SS):List T->List D->Prop
 | [],ds=>ds=[]
 | t::ts,ds=>∃ c cs,ds=c::cs/\Sn S t c/\Sns S ts cs
end
mutual
theorem eqT_refl:∀ t:T,eqT t t=true
 | .non=>by simp[eqT]
 | .bl b=>by simp[eqT]
 | .int i=>by simp[eqT]
 | .str x=>by simp[eqT]
 | .tup ts=>by simp only[eqT];exact eqTs_refl ts
 | .lst ts=>by simp only[eqT];exact eqTs_refl ts
 | .dic=>by simp[eqT]
 | .err _ _ t=>by simp[eqT,eqT_refl t]
theorem eqTs_refl:∀ ts:List T,eqTs ts ts=true
 | []=>by simp[eqTs]
 | t::ts=>by simp only[eqTs,eqT_refl t,eqTs_refl ts,Bool.and_self]
end
theorem eqTs_all:∀ ts us:List T,eqTs ts us=((List.range (min ts.length us.length)).all (λ j=>eqT (ts.getD j .non) (us.getD j .non))&&ts.length == us.length)
 | [],[]=>by simp[eqTs]
 | [],_::_=>by simp[eqTs]
 | _::_,[]=>by simp[eqTs]
 | t::ts,u::us=>by
  simp only[eqTs,eqTs_all ts us,List.length_cons]
  rw[show min (ts.length+1) (us.length+1)=min ts.length us.length+1 by omega,List.range_succ_eq_map,List.all_cons,List.all_map]
  have:(ts.length+1 == us.length+1)=(ts.length == us.length):=by rw[Bool.eq_iff_iff];simp
  rw[this,Bool.and_assoc]
  rfl
theorem Sns.length {S:SS}:∀ {ts:List T}{ds:List D},Sns S ts ds->ts.length=ds.length
 | [],ds,h=>by simp only[Sns] at h;subst h;rfl
 | t::ts,ds,h=>by
  simp only[Sns] at h
  obtain⟨c,cs,rfl,_,h2⟩:=h
  simp[Sns.length h2]
section
variable {X:Cx}{pins:List (Addr×Obj)}{σ:St}{H:Hp}{s:Shared}{S:SS}
theorem inv_tl (I:Inv X pins σ H s) {a:Addr}{xs ys:List V}(h1:SqT X.K H a xs) (h2:SqL X.K H a ys):False:=by
 obtain⟨_,_,⟨o,e,c,_⟩,_⟩:=I.tuple h1
 obtain⟨_,_,⟨o',n,e',c',_⟩,_⟩:=I.list h2
 rw[e] at e';cases e'
 rw[c] at c'
 injection c' with q
 exact absurd q (by decide)
theorem Sn.lstv (p:RepH X.K H S) {ts:List T}{d:D}{x:V}(h:Sn S (.lst ts) d) (r:RepD X.K H d x):∃ a xs ds,x=.ref a/\SqL X.K H a xs/\RepDs X.K H ds xs/\Sns S ts ds:=by
 simp only[Sn] at h
 obtain⟨ds,⟨h,_⟩ | ⟨a,h,e⟩,h2⟩:=h
 ·subst h
  simp only[RepD] at r
  obtain⟨a,xs,rfl,g1,g2⟩:=r
  exact⟨a,xs,ds,rfl,g1.sq,g2,h2⟩
 ·subst h
  simp only[RepD] at r
  obtain⟨xs,g1,g2⟩:=p _ _ e
  exact⟨a,xs,ds,r,SqL.of g1,g2,h2⟩
theorem Sn.tupv {ts:List T}{d:D}{x:V}(h:Sn S (.tup ts) d) (r:RepD X.K H d x):∃ a xs ds,x=.ref a/\SqT X.K H a xs/\RepDs X.K H ds xs/\Sns S ts ds:=by
 simp only[Sn] at h
 obtain⟨ds,rfl,h2⟩:=h
 simp only[RepD] at r
 obtain⟨a,xs,rfl,g1,g2⟩:=r
 exact⟨a,xs,ds,rfl,g1,g2,h2⟩
theorem Sn.dicv (p:RepH X.K H S) {d:D}{x:V}(h:Sn S .dic d) (r:RepD X.K H d x):∃ a vs,x=.ref a/\H a=some (.dK vs):=by
 simp only[Sn] at h
 obtain⟨a,kvs,⟨rfl,_⟩,e⟩:=h
 simp only[RepD] at r
 obtain⟨xs,g1,g2⟩:=p _ _ e
 exact⟨a,xs,r,g1⟩
theorem inv_dic (I:Inv X pins σ H s) {a:Addr}{vs:List (Key×V)}(h:H a=some (.dK vs)):∃ o,s.heap.get? a=some o/\o.cls=.type "dict":=by
 obtain⟨_,_,_,_,o,_,_,e,c⟩:=(show ObjOk X.prog X.w H s.heap a (.dK vs) from I.hok a _ h)
 exact⟨o,e,c.1.1⟩
theorem inv_td (I:Inv X pins σ H s) {a:Addr}{xs:List V}{vs:List (Key×V)}(h1:SqT X.K H a xs) (h2:H a=some (.dK vs)):False:=by
 obtain⟨_,_,⟨o,e,c,_⟩,_⟩:=I.tuple h1
 obtain⟨o',e',c'⟩:=inv_dic I h2
 rw[e] at e';cases e'
 rw[c] at c'
 injection c' with q
 exact absurd q (by decide)
theorem inv_ld (I:Inv X pins σ H s) {a:Addr}{xs:List V}{vs:List (Key×V)}(h1:SqL X.K H a xs) (h2:H a=some (.dK vs)):False:=by
 obtain⟨_,_,⟨o,n,e,c,_⟩,_⟩:=I.list h1
 obtain⟨o',e',c'⟩:=inv_dic I h2
 rw[e] at e';cases e'
 rw[c] at c'
 injection c' with q
 exact absurd q (by decide)
theorem Sn.flat {t:T}{d:D}{x:V}(h:Sn S t d) (r:RepD X.K H d x):match t with
  | .non=>x=.non
  | .bl b=>x=.bl b
  | .int i=>x=.int i
  | .str y=>x=.str y
  | _=>True:=by
 cases t <;> first
  | trivial
  | (simp only[Sn] at h;subst h;simpa only [RepD] using r)
theorem Sn.errv {c f:Str}{t:T}{d:D}{x:V}(h:Sn S (.err c f t) d) (r:RepD X.K H d x):∃ e C dx w y,x=.ref e/\(ErrC X.K c C/\H e=some (ErrO e C dx)/\H dx=some (.xd [(f,w)]))/\Sn S t y/\RepD X.K H y w:=by
 simp only[Sn] at h
 obtain⟨y,rfl,h⟩:=h
 simp only[RepD] at r
 obtain⟨e,C,dx,w,r1,r2,r3⟩:=r
 exact⟨e,C,dx,w,y,r1,r2,h,r3⟩
theorem inv_err (I:Inv X pins σ H s) {e C dx:Addr}(h:H e=some (ErrO e C dx)):∃ oe vs,s.heap.get? e=some oe/\oe.cls=.ref C/\oe.dict=some dx/\oe.data=.fields vs:=(show ObjOk X.prog X.w H s.heap e (ErrO e C dx) from I.hok e _ h).1
theorem inv_te (I:Inv X pins σ H s) {a C dx:Addr}{xs:List V}(h1:SqT X.K H a xs) (h2:H a=some (ErrO a C dx)):False:=by
 obtain⟨_,_,⟨o,e,c,_⟩,_⟩:=I.tuple h1
 obtain⟨o',_,e',c',_⟩:=inv_err I h2
 rw[e] at e';cases e'
 rw[c] at c';cases c'
theorem inv_le (I:Inv X pins σ H s) {a C dx:Addr}{xs:List V}(h1:SqL X.K H a xs) (h2:H a=some (ErrO a C dx)):False:=by
 obtain⟨_,_,⟨o,n,e,c,_⟩,_⟩:=I.list h1
 obtain⟨o',_,e',c',_⟩:=inv_err I h2
 rw[e] at e';cases e'
 rw[c] at c';cases c'
theorem inv_de (I:Inv X pins σ H s) {a C dx:Addr}{vs:List (Key×V)}(h1:H a=some (.dK vs)) (h2:H a=some (ErrO a C dx)):False:=by
 rw[h1] at h2;cases h2
theorem inv_ee (I:Inv X pins σ H s) {e C dx C' dx':Addr}(h1:H e=some (ErrO e C dx)) (h2:H e=some (ErrO e C' dx')):C=C'/\dx=dx':=by
 obtain⟨o,_,e1,c1,d1,_⟩:=inv_err I h1
 obtain⟨o',_,e2,c2,d2,_⟩:=inv_err I h2
 rw[e1] at e2;cases e2
 rw[c1] at c2;rw[d1] at d2
 cases c2;cases d2
 exact⟨rfl,rfl⟩
theorem ErrC.inj {K:PySem.W.Frag}{c c':Str}{C:Addr}(h1:ErrC K c C) (h2:ErrC K c' C):c=c':=by
 obtain⟨_,_,_,⟨⟨⟨_,_,_,_,_,_,_,_,_,_,_,_,a⟩,_⟩,_,_,_,_⟩⟩:=h1
 obtain⟨_,_,_,⟨⟨⟨_,_,_,_,_,_,_,_,_,_,_,_,b⟩,_⟩,_,_,_,_⟩⟩:=h2
 rw[a] at b
 cases b;rfl
mutual
theorem uniq_T (I:Inv X pins σ H s) (p:RepH X.K H S):∀ (t u:T) {d e:D}{x:V},Sn S t d->Sn S u e->RepD X.K H d x->RepD X.K H e x->t=u
 | .tup ts,u,d,e,x,h1,h2,r1,r2=>by
  obtain⟨a,xs,ds,rfl,g1,g2,g3⟩:=h1.tupv r1
  cases u with
  | dic=>obtain⟨_,_,q,g⟩:=h2.dicv p r2;cases q;exact (inv_td I g1 g).elim
  | err _ _ _=>obtain⟨_,_,_,_,_,q,g,_⟩:=h2.errv r2;cases q;exact (inv_te I g1 g.2.1).elim
  | tup us=>
   obtain⟨a',xs',ds',q,k1,k2,k3⟩:=h2.tupv r2
   cases q
   have:=I.tuple_inj g1 k1
   subst this
   rw[uniq_Ts I p ts us g3 k3 g2 k2]
  | lst us=>
   obtain⟨a',xs',ds',q,k1,k2,k3⟩:=h2.lstv p r2
   cases q
   exact (inv_tl I g1 k1).elim
  | non=>exact nomatch h2.flat r2
  | bl _=>exact nomatch h2.flat r2
  | int _=>exact nomatch h2.flat r2
  | str _=>exact nomatch h2.flat r2
 | .lst ts,u,d,e,x,h1,h2,r1,r2=>by
  obtain⟨a,xs,ds,rfl,g1,g2,g3⟩:=h1.lstv p r1
  cases u with
  | dic=>obtain⟨_,_,q,g⟩:=h2.dicv p r2;cases q;exact (inv_ld I g1 g).elim
  | err _ _ _=>obtain⟨_,_,_,_,_,q,g,_⟩:=h2.errv r2;cases q;exact (inv_le I g1 g.2.1).elim
  | lst us=>
   obtain⟨a',xs',ds',q,k1,k2,k3⟩:=h2.lstv p r2
   cases q
   have:=I.list_inj g1 k1
   subst this
   rw[uniq_Ts I p ts us g3 k3 g2 k2]
  | tup us=>
   obtain⟨a',xs',ds',q,k1,k2,k3⟩:=h2.tupv r2
   cases q
   exact (inv_tl I k1 g1).elim
  | non=>exact nomatch h2.flat r2
  | bl _=>exact nomatch h2.flat r2
  | int _=>exact nomatch h2.flat r2
  | str _=>exact nomatch h2.flat r2
 | .non,u,d,e,x,h1,h2,r1,r2=>by
  have q:=h1.flat r1
  subst q
  cases u with
  | dic=>obtain⟨_,_,q,g⟩:=h2.dicv p r2;cases q
  | err _ _ _=>obtain⟨_,_,_,_,_,q,_⟩:=h2.errv r2;cases q
  | non=>rfl
  | tup us=>obtain⟨_,_,_,q,_⟩:=h2.tupv r2;cases q
  | lst us=>obtain⟨_,_,_,q,_⟩:=h2.lstv p r2;cases q
  | bl _=>exact nomatch h2.flat r2
  | int _=>exact nomatch h2.flat r2
  | str _=>exact nomatch h2.flat r2
 | .bl b,u,d,e,x,h1,h2,r1,r2=>by
  have q:=h1.flat r1
  subst q
  cases u with
  | dic=>obtain⟨_,_,q,g⟩:=h2.dicv p r2;cases q
  | err _ _ _=>obtain⟨_,_,_,_,_,q,_⟩:=h2.errv r2;cases q
  | bl _=>have q:=h2.flat r2;cases q;rfl
  | tup us=>obtain⟨_,_,_,q,_⟩:=h2.tupv r2;cases q
  | lst us=>obtain⟨_,_,_,q,_⟩:=h2.lstv p r2;cases q
  | non=>exact nomatch h2.flat r2
  | int _=>exact nomatch h2.flat r2
  | str _=>exact nomatch h2.flat r2
 | .int b,u,d,e,x,h1,h2,r1,r2=>by
  have q:=h1.flat r1
  subst q
  cases u with
  | dic=>obtain⟨_,_,q,g⟩:=h2.dicv p r2;cases q
  | err _ _ _=>obtain⟨_,_,_,_,_,q,_⟩:=h2.errv r2;cases q
  | int _=>have q:=h2.flat r2;cases q;rfl
  | tup us=>obtain⟨_,_,_,q,_⟩:=h2.tupv r2;cases q
  | lst us=>obtain⟨_,_,_,q,_⟩:=h2.lstv p r2;cases q
  | non=>exact nomatch h2.flat r2
  | bl _=>exact nomatch h2.flat r2
  | str _=>exact nomatch h2.flat r2
 | .str b,u,d,e,x,h1,h2,r1,r2=>by
  have q:=h1.flat r1
  subst q
  cases u with
  | dic=>obtain⟨_,_,q,g⟩:=h2.dicv p r2;cases q
  | err _ _ _=>obtain⟨_,_,_,_,_,q,_⟩:=h2.errv r2;cases q
  | str _=>have q:=h2.flat r2;cases q;rfl
  | tup us=>obtain⟨_,_,_,q,_⟩:=h2.tupv r2;cases q
  | lst us=>obtain⟨_,_,_,q,_⟩:=h2.lstv p r2;cases q
  | non=>exact nomatch h2.flat r2
  | bl _=>exact nomatch h2.flat r2
  | int _=>exact nomatch h2.flat r2
 | .err c f t,u,d,e,x,h1,h2,r1,r2=>by
  obtain⟨a,C,dx,w,y,rfl,⟨g1,g2,g3⟩,g4,g5⟩:=h1.errv r1
  cases u with
  | err c' f' t'=>
   obtain⟨a',C',dx',w',y',q,⟨k1,k2,k3⟩,k4,k5⟩:=h2.errv r2
   cases q
   obtain⟨rfl,rfl⟩:=inv_ee I g2 k2
   rw[g3] at k3;cases k3
   cases g1.inj k1
   rw[uniq_T I p t t' g4 k4 g5 k5]
  | dic=>obtain⟨_,_,q,g⟩:=h2.dicv p r2;cases q;exact (inv_de I g g2).elim
  | tup us=>obtain⟨_,_,_,q,k1,_⟩:=h2.tupv r2;cases q;exact (inv_te I k1 g2).elim
  | lst us=>obtain⟨_,_,_,q,k1,_⟩:=h2.lstv p r2;cases q;exact (inv_le I k1 g2).elim
  | non=>exact nomatch h2.flat r2
  | bl _=>exact nomatch h2.flat r2
  | int _=>exact nomatch h2.flat r2
  | str _=>exact nomatch h2.flat r2
 | .dic,u,d,e,x,h1,h2,r1,r2=>by
  obtain⟨a,vs,rfl,g⟩:=h1.dicv p r1
  cases u with
  | dic=>rfl
  | err _ _ _=>obtain⟨_,_,_,_,_,q,g',_⟩:=h2.errv r2;cases q;exact (inv_de I g g'.2.1).elim
  | tup us=>obtain⟨_,_,_,q,g1,_⟩:=h2.tupv r2;cases q;exact (inv_td I g1 g).elim
  | lst us=>obtain⟨_,_,_,q,g1,_⟩:=h2.lstv p r2;cases q;exact (inv_ld I g1 g).elim
  | non=>exact nomatch h2.flat r2
  | bl _=>exact nomatch h2.flat r2
  | int _=>exact nomatch h2.flat r2
  | str _=>exact nomatch h2.flat r2
theorem uniq_Ts (I:Inv X pins σ H s) (p:RepH X.K H S):∀ (ts us:List T) {ds es:List D}{xs:List V},Sns S ts ds->Sns S us es->RepDs X.K H ds xs->RepDs X.K H es xs->ts=us
 | [],us,ds,es,xs,h1,h2,r1,r2=>by
  have e:=h1.length.trans (r1.length.trans (r2.length.symm.trans h2.length.symm))
  cases us with
  | nil=>rfl
  | cons _ _=>simp at e
 | t::ts,[],ds,es,xs,h1,h2,r1,r2=>by
  have e:=h1.length.trans (r1.length.trans (r2.length.symm.trans h2.length.symm))
  simp at e
 | t::ts,u::us,ds,es,xs,h1,h2,r1,r2=>by
  simp only[Sns] at h1 h2
  obtain⟨c,cs,rfl,a1,a2⟩:=h1
  obtain⟨c',cs',rfl,b1,b2⟩:=h2
  simp only[RepDs] at r1 r2
  obtain⟨y,ys,rfl,g1,g2⟩:=r1
  obtain⟨y',ys',q,k1,k2⟩:=r2
  cases q
  rw[uniq_T I p t u a1 b1 g1 k1,uniq_Ts I p ts us a2 b2 g2 k2]
end
mutual
theorem eqAt_T (I:Inv X pins σ H s) (p:RepH X.K H S):∀ (t u:T) {A:Around}{d e:D}{x y:V}{a b:Value},A.units+dep t<cLine->A.units+dep u<cLine->Sn S t d->Sn S u e->RepD X.K H d x->RepD X.K H e y->RelV x a->RelV y b->SeqAt.EqAt A s a b (eqT t u)
 | .non,u,A,d,e,x,y,a,b,hu,hu',h1,h2,r1,r2,v1,v2=>by
  have q:=h1.flat r1;subst q;cases v1
  cases u with
  | dic=>simp only[dep] at hu';omega
  | err _ _ _=>simp only[dep] at hu';omega
  | non=>have q:=h2.flat r2;subst q;cases v2;simp only[eqT];exact SeqAt.EqAt.same _
  | bl b=>have q:=h2.flat r2;subst q;cases v2;simp only[eqT];exact SeqAt.EqAt.none_bool _
  | int i=>have q:=h2.flat r2;subst q;obtain⟨t,rfl⟩:=v2;simp only[eqT];exact SeqAt.EqAt.none_int _ _
  | str i=>have q:=h2.flat r2;subst q;obtain⟨t,rfl⟩:=v2;simp only[eqT];exact SeqAt.EqAt.none_str _ _
  | tup us=>obtain⟨a',xs',ds',rfl,k1,k2,k3⟩:=h2.tupv r2;cases v2;obtain⟨_,_,pt,_⟩:=I.tuple k1;simp only[eqT];exact SeqAt.EqAt.none_tuple pt (by omega)
  | lst us=>obtain⟨a',xs',ds',rfl,k1,k2,k3⟩:=h2.lstv p r2;cases v2;obtain⟨_,_,pl,_⟩:=I.list k1;simp only[eqT];exact SeqAt.EqAt.none_list pl.isList (by omega)
 | .bl c,u,A,d,e,x,y,a,b,hu,hu',h1,h2,r1,r2,v1,v2=>by
  have q:=h1.flat r1;subst q;cases v1
  cases u with
  | dic=>simp only[dep] at hu';omega
  | err _ _ _=>simp only[dep] at hu';omega
  | non=>have q:=h2.flat r2;subst q;cases v2;simp only[eqT];exact SeqAt.EqAt.bool_none _
  | bl b=>have q:=h2.flat r2;subst q;cases v2;simp only[eqT];exact SeqAt.EqAt.bool_bool _ _
  | int i=>have q:=h2.flat r2;subst q;obtain⟨t,rfl⟩:=v2;simp only[eqT];exact SeqAt.EqAt.bool_int _ _ _
  | str i=>have q:=h2.flat r2;subst q;obtain⟨t,rfl⟩:=v2;simp only[eqT];exact SeqAt.EqAt.bool_str _ _ _
  | tup us=>obtain⟨a',xs',ds',rfl,k1,k2,k3⟩:=h2.tupv r2;cases v2;obtain⟨_,_,pt,_⟩:=I.tuple k1;simp only[eqT];exact SeqAt.EqAt.bool_tuple _ pt (by omega)
  | lst us=>obtain⟨a',xs',ds',rfl,k1,k2,k3⟩:=h2.lstv p r2;cases v2;obtain⟨_,_,pl,_⟩:=I.list k1;simp only[eqT];exact SeqAt.EqAt.bool_list _ pl.isList (by omega)
 | .int c,u,A,d,e,x,y,a,b,hu,hu',h1,h2,r1,r2,v1,v2=>by
  have q:=h1.flat r1;subst q;obtain⟨tk,rfl⟩:=v1
  cases u with
  | dic=>simp only[dep] at hu';omega
  | err _ _ _=>simp only[dep] at hu';omega
  | non=>have q:=h2.flat r2;subst q;cases v2;simp only[eqT];exact SeqAt.EqAt.int_none _ _
  | bl b=>have q:=h2.flat r2;subst q;cases v2;simp only[eqT];exact SeqAt.EqAt.int_bool _ _ _
  | int i=>have q:=h2.flat r2;subst q;obtain⟨t,rfl⟩:=v2;simp only[eqT];exact SeqAt.EqAt.int_int _ _ _ _
  | str i=>have q:=h2.flat r2;subst q;obtain⟨t,rfl⟩:=v2;simp only[eqT];exact SeqAt.EqAt.int_str _ _ _ _
  | tup us=>obtain⟨a',xs',ds',rfl,k1,k2,k3⟩:=h2.tupv r2;cases v2;obtain⟨_,_,pt,_⟩:=I.tuple k1;simp only[eqT];exact SeqAt.EqAt.int_tuple _ _ pt (by omega)
  | lst us=>obtain⟨a',xs',ds',rfl,k1,k2,k3⟩:=h2.lstv p r2;cases v2;obtain⟨_,_,pl,_⟩:=I.list k1;simp only[eqT];exact SeqAt.EqAt.int_list _ _ pl.isList (by omega)
 | .str c,u,A,d,e,x,y,a,b,hu,hu',h1,h2,r1,r2,v1,v2=>by
  have q:=h1.flat r1;subst q;obtain⟨tk,rfl⟩:=v1
  cases u with
  | dic=>simp only[dep] at hu';omega
  | err _ _ _=>simp only[dep] at hu';omega
  | non=>have q:=h2.flat r2;subst q;cases v2;simp only[eqT];exact SeqAt.EqAt.str_none _ _
  | bl b=>have q:=h2.flat r2;subst q;cases v2;simp only[eqT];exact SeqAt.EqAt.str_bool _ _ _
  | int i=>have q:=h2.flat r2;subst q;obtain⟨t,rfl⟩:=v2;simp only[eqT];exact SeqAt.EqAt.str_int _ _ _ _
  | str i=>have q:=h2.flat r2;subst q;obtain⟨t,rfl⟩:=v2;simp only[eqT];exact SeqAt.EqAt.str_str _ _ _ _
  | tup us=>obtain⟨a',xs',ds',rfl,k1,k2,k3⟩:=h2.tupv r2;cases v2;obtain⟨_,_,pt,_⟩:=I.tuple k1;simp only[eqT];exact SeqAt.EqAt.str_tuple _ _ pt (by omega)
  | lst us=>obtain⟨a',xs',ds',rfl,k1,k2,k3⟩:=h2.lstv p r2;cases v2;obtain⟨_,_,pl,_⟩:=I.list k1;simp only[eqT];exact SeqAt.EqAt.str_list _ _ pl.isList (by omega)
 | .tup ts,u,A,d,e,x,y,a,b,hu,hu',h1,h2,r1,r2,v1,v2=>by
  have hd1:=h1
  have hr1:=r1
  obtain⟨l,xs,ds,rfl,g1,g2,g3⟩:=h1.tupv r1
  cases v1
  obtain⟨its,w1,pt,_⟩:=I.tuple g1
  simp only[dep] at hu
  cases u with
  | dic=>simp only[dep] at hu';omega
  | err _ _ _=>simp only[dep] at hu';omega
  | non=>have q:=h2.flat r2;subst q;cases v2;simp only[eqT];exact SeqAt.EqAt.tuple_none pt (by omega)
  | bl b=>have q:=h2.flat r2;subst q;cases v2;simp only[eqT];exact SeqAt.EqAt.tuple_bool _ pt (by omega)
  | int i=>have q:=h2.flat r2;subst q;obtain⟨t,rfl⟩:=v2;simp only[eqT];exact SeqAt.EqAt.tuple_int _ _ pt (by omega)
  | str i=>have q:=h2.flat r2;subst q;obtain⟨t,rfl⟩:=v2;simp only[eqT];exact SeqAt.EqAt.tuple_str _ _ pt (by omega)
  | tup us=>
   by_cases hlb:(Value.ref l)=b
   ·subst hlb
    have hy:y=.ref l:=RelV.inj v2 rfl
    subst hy
    have:=uniq_T I p (.tup ts) (.tup us) hd1 h2 hr1 r2
    rw[<- this,eqT_refl]
    exact SeqAt.EqAt.same _
   ·obtain⟨l',xs',ds',rfl,k1,k2,k3⟩:=h2.tupv r2
    cases v2
    obtain⟨its',w2,pt',_⟩:=I.tuple k1
    simp only[dep] at hu'
    have e1:its.toArray.size=ts.length:=by rw[List.size_toArray,<- w1.length,<- g2.length,<- g3.length]
    have e2:its'.toArray.size=us.length:=by rw[List.size_toArray,<- w2.length,<- k2.length,<- k3.length]
    have q:=SeqAt.RcAt.tuples (A:=A) (e:=λ j=>eqT (ts.getD j .non) (us.getD j .non)) pt pt' (by omega) λ j h1 h2=>by
     have:=eqAt_Ts I p ts us (A:=A.in1) (by show A.units+1+deps ts<cLine;omega) (by show A.units+1+deps us<cLine;omega) g3 k3 g2 k2 w1 w2 j (by simpa using h1) (by simpa using h2)
     simpa using this
    rw[e1,e2] at q
    have q':=SeqAt.EqAt.of_refs (λ z=>hlb (by rw[z])) q
    simp only[eqT,eqTs_all]
    exact q'
  | lst us=>obtain⟨l',xs',ds',rfl,k1,k2,k3⟩:=h2.lstv p r2;cases v2;obtain⟨_,_,pl,_⟩:=I.list k1;simp only[eqT];exact SeqAt.EqAt.tuple_list pt pl.isList (by omega)
 | .lst ts,u,A,d,e,x,y,a,b,hu,hu',h1,h2,r1,r2,v1,v2=>by
  have hd1:=h1
  have hr1:=r1
  obtain⟨l,xs,ds,rfl,g1,g2,g3⟩:=h1.lstv p r1
  cases v1
  obtain⟨its,w1,pl,_⟩:=I.list g1
  simp only[dep] at hu
  cases u with
  | dic=>simp only[dep] at hu';omega
  | err _ _ _=>simp only[dep] at hu';omega
  | non=>have q:=h2.flat r2;subst q;cases v2;simp only[eqT];exact SeqAt.EqAt.list_none pl.isList (by omega)
  | bl b=>have q:=h2.flat r2;subst q;cases v2;simp only[eqT];exact SeqAt.EqAt.list_bool _ pl.isList (by omega)
  | int i=>have q:=h2.flat r2;subst q;obtain⟨t,rfl⟩:=v2;simp only[eqT];exact SeqAt.EqAt.list_int _ _ pl.isList (by omega)
  | str i=>have q:=h2.flat r2;subst q;obtain⟨t,rfl⟩:=v2;simp only[eqT];exact SeqAt.EqAt.list_str _ _ pl.isList (by omega)
  | tup us=>obtain⟨l',xs',ds',rfl,k1,k2,k3⟩:=h2.tupv r2;cases v2;obtain⟨_,_,pt,_⟩:=I.tuple k1;simp only[eqT];exact SeqAt.EqAt.list_tuple pl.isList pt (by omega)
  | lst us=>
   by_cases hlb:(Value.ref l)=b
   ·subst hlb
    have hy:y=.ref l:=RelV.inj v2 rfl
    subst hy
    have:=uniq_T I p (.lst ts) (.lst us) hd1 h2 hr1 r2
    rw[<- this,eqT_refl]
    exact SeqAt.EqAt.same _
   ·obtain⟨l',xs',ds',rfl,k1,k2,k3⟩:=h2.lstv p r2
    cases v2
    obtain⟨its',w2,pl',_⟩:=I.list k1
    simp only[dep] at hu'
    have e1:its.toArray.size=ts.length:=by rw[List.size_toArray,<- w1.length,<- g2.length,<- g3.length]
    have e2:its'.toArray.size=us.length:=by rw[List.size_toArray,<- w2.length,<- k2.length,<- k3.length]
    have hne:l≠l':=λ z=>hlb (by rw[z])
    by_cases hsz:ts.length=us.length
    ·have q:=SeqAt.RcAt.lists (A:=A) (e:=λ j=>eqT (ts.getD j .non) (us.getD j .non)) pl.isList pl'.isList (by rw[e1,e2];exact hsz) (by omega) λ j h1 h2=>by
      have:=eqAt_Ts I p ts us (A:=A.in1) (by show A.units+1+deps ts<cLine;omega) (by show A.units+1+deps us<cLine;omega) g3 k3 g2 k2 w1 w2 j (by simpa using h1) (by simpa using h2)
      simpa using this
     rw[e1] at q
     have q':=SeqAt.EqAt.of_refs hne q
     simp only[eqT,eqTs_all]
     rw[<- hsz,Nat.min_self]
     simpa using q'
    ·have q:=SeqAt.RcAt.lists_lengths (A:=A) pl.isList pl'.isList (by rw[e1,e2];simpa using hsz) (by omega)
     have q':=SeqAt.EqAt.of_refs hne q
     simp only[eqT,eqTs_all]
     have:(ts.length == us.length)=false:=by simpa using hsz
     rw[this,Bool.and_false]
     exact q'
 | .dic,u,A,d,e,x,y,a,b,hu,hu',h1,h2,r1,r2,v1,v2=>by simp only[dep] at hu;omega
 | .err _ _ _,u,A,d,e,x,y,a,b,hu,hu',h1,h2,r1,r2,v1,v2=>by simp only[dep] at hu;omega
theorem eqAt_Ts (I:Inv X pins σ H s) (p:RepH X.K H S):∀ (ts us:List T) {A:Around}{ds es:List D}{xs ys:List V}{its its':List Value},A.units+deps ts<cLine->A.units+deps us<cLine->Sns S ts ds->Sns S us es->RepDs X.K H ds xs->RepDs X.K H es ys->Vals xs its->Vals ys its'->
  ∀ (j:Nat) (h1:j<its.length) (h2:j<its'.length),SeqAt.EqAt A s its[j] its'[j] (eqT (ts.getD j .non) (us.getD j .non))
 | [],us,A,ds,es,xs,ys,its,its',hu,hu',s1,s2,r1,r2,v1,v2,j,h1,h2=>by
  rw[<- v1.length,<- r1.length,<- s1.length] at h1
  simp at h1
 | t::ts,[],A,ds,es,xs,ys,its,its',hu,hu',s1,s2,r1,r2,v1,v2,j,h1,h2=>by
  rw[<- v2.length,<- r2.length,<- s2.length] at h2
  simp at h2
 | t::ts,u::us,A,ds,es,xs,ys,its,its',hu,hu',s1,s2,r1,r2,v1,v2,j,h1,h2=>by
  simp only[Sns] at s1 s2
  obtain⟨c,cs,rfl,a1,a2⟩:=s1
  obtain⟨c',cs',rfl,b1,b2⟩:=s2
  simp only[RepDs] at r1 r2
  obtain⟨y,ys,rfl,g1,g2⟩:=r1
  obtain⟨y',ys',rfl,k1,k2⟩:=r2
  cases v1 with
  | cons m1 m2=>
   cases v2 with
   | cons n1 n2=>
    simp only[deps] at hu hu'
    cases j with
    | zero=>simpa using eqAt_T I p t u (A:=A) (by omega) (by omega) a1 b1 g1 k1 m1 n1
    | succ j=>simpa using eqAt_Ts I p ts us (A:=A) (by omega) (by omega) a2 b2 g2 k2 m2 n2 j (by simpa using h1) (by simpa using h2)
end
end
end L3
namespace L3
open PySem PySem.Spec L2
open PyProof.Rows hiding St
section
variable {X:Cx}{pins:List (Addr×Obj)}{σ:St}{H:Hp}{s:Shared}{S:SS}
theorem rcAt_T (I:Inv X pins σ H s) (p:RepH X.K H S):∀ (t u:T) {A:Around}{d e:D}{x y:V}{a b:Value},A.units+dep t<cLine->A.units+dep u<cLine->Sn S t d->Sn S u e->RepD X.K H d x->RepD X.K H e y->RelV x a->RelV y b->SeqAt.RcAt A s a b (eqT t u)
 | .non,u,A,d,e,x,y,a,b,hu,hu',h1,h2,r1,r2,v1,v2=>by
  have q:=h1.flat r1;subst q;cases v1
  cases u with
  | dic=>simp only[dep] at hu';omega
  | err _ _ _=>simp only[dep] at hu';omega
  | non=>have q:=h2.flat r2;subst q;cases v2;simp only[eqT];exact SeqAt.RcAt.none_none
  | bl c2=>have q:=h2.flat r2;subst q;cases v2;simp only[eqT];exact SeqAt.RcAt.none_bool _
  | int c2=>have q:=h2.flat r2;subst q;obtain⟨tk2,rfl⟩:=v2;simp only[eqT];exact SeqAt.RcAt.none_int _ _
  | str c2=>have q:=h2.flat r2;subst q;obtain⟨tk2,rfl⟩:=v2;simp only[eqT];exact SeqAt.RcAt.none_str _ _
  | tup c2=>obtain⟨l',xs',ds',rfl,k1,k2,k3⟩:=h2.tupv r2;cases v2;obtain⟨its',w2,pt',_⟩:=I.tuple k1;simp only[dep] at hu';simp only[eqT];exact SeqAt.RcAt.none_tuple pt' (by omega)
  | lst c2=>obtain⟨l',xs',ds',rfl,k1,k2,k3⟩:=h2.lstv p r2;cases v2;obtain⟨its',w2,pl',_⟩:=I.list k1;simp only[dep] at hu';simp only[eqT];exact SeqAt.RcAt.none_list pl'.isList (by omega)
 | .bl c,u,A,d,e,x,y,a,b,hu,hu',h1,h2,r1,r2,v1,v2=>by
  have q:=h1.flat r1;subst q;cases v1
  cases u with
  | dic=>simp only[dep] at hu';omega
  | err _ _ _=>simp only[dep] at hu';omega
  | non=>have q:=h2.flat r2;subst q;cases v2;simp only[eqT];exact SeqAt.RcAt.bool_none _
  | bl c2=>have q:=h2.flat r2;subst q;cases v2;simp only[eqT];exact SeqAt.RcAt.bool_bool _ _
  | int c2=>have q:=h2.flat r2;subst q;obtain⟨tk2,rfl⟩:=v2;simp only[eqT];exact SeqAt.RcAt.bool_int _ _ _
  | str c2=>have q:=h2.flat r2;subst q;obtain⟨tk2,rfl⟩:=v2;simp only[eqT];exact SeqAt.RcAt.bool_str _ _ _
  | tup c2=>obtain⟨l',xs',ds',rfl,k1,k2,k3⟩:=h2.tupv r2;cases v2;obtain⟨its',w2,pt',_⟩:=I.tuple k1;simp only[dep] at hu';simp only[eqT];exact SeqAt.RcAt.bool_tuple _ pt' (by omega)
  | lst c2=>obtain⟨l',xs',ds',rfl,k1,k2,k3⟩:=h2.lstv p r2;cases v2;obtain⟨its',w2,pl',_⟩:=I.list k1;simp only[dep] at hu';simp only[eqT];exact SeqAt.RcAt.bool_list _ pl'.isList (by omega)
 | .int c,u,A,d,e,x,y,a,b,hu,hu',h1,h2,r1,r2,v1,v2=>by
  have q:=h1.flat r1;subst q;obtain⟨tk,rfl⟩:=v1
  cases u with
  | dic=>simp only[dep] at hu';omega
  | err _ _ _=>simp only[dep] at hu';omega
  | non=>have q:=h2.flat r2;subst q;cases v2;simp only[eqT];exact SeqAt.RcAt.int_none _ _
  | bl c2=>have q:=h2.flat r2;subst q;cases v2;simp only[eqT];exact SeqAt.RcAt.int_bool _ _ _
  | int c2=>have q:=h2.flat r2;subst q;obtain⟨tk2,rfl⟩:=v2;simp only[eqT];exact SeqAt.RcAt.int_int _ _ _ _
  | str c2=>have q:=h2.flat r2;subst q;obtain⟨tk2,rfl⟩:=v2;simp only[eqT];exact SeqAt.RcAt.int_str _ _ _ _
  | tup c2=>obtain⟨l',xs',ds',rfl,k1,k2,k3⟩:=h2.tupv r2;cases v2;obtain⟨its',w2,pt',_⟩:=I.tuple k1;simp only[dep] at hu';simp only[eqT];exact SeqAt.RcAt.int_tuple _ _ pt' (by omega)
  | lst c2=>obtain⟨l',xs',ds',rfl,k1,k2,k3⟩:=h2.lstv p r2;cases v2;obtain⟨its',w2,pl',_⟩:=I.list k1;simp only[dep] at hu';simp only[eqT];exact SeqAt.RcAt.int_list _ _ pl'.isList (by omega)
 | .str c,u,A,d,e,x,y,a,b,hu,hu',h1,h2,r1,r2,v1,v2=>by
  have q:=h1.flat r1;subst q;obtain⟨tk,rfl⟩:=v1
  cases u with
  | dic=>simp only[dep] at hu';omega
  | err _ _ _=>simp only[dep] at hu';omega
  | non=>have q:=h2.flat r2;subst q;cases v2;simp only[eqT];exact SeqAt.RcAt.str_none _ _
  | bl c2=>have q:=h2.flat r2;subst q;cases v2;simp only[eqT];exact SeqAt.RcAt.str_bool _ _ _
  | int c2=>have q:=h2.flat r2;subst q;obtain⟨tk2,rfl⟩:=v2;simp only[eqT];exact SeqAt.RcAt.str_int _ _ _ _
  | str c2=>have q:=h2.flat r2;subst q;obtain⟨tk2,rfl⟩:=v2;simp only[eqT];exact SeqAt.RcAt.str_str _ _ _ _
  | tup c2=>obtain⟨l',xs',ds',rfl,k1,k2,k3⟩:=h2.tupv r2;cases v2;obtain⟨its',w2,pt',_⟩:=I.tuple k1;simp only[dep] at hu';simp only[eqT];exact SeqAt.RcAt.str_tuple _ _ pt' (by omega)
  | lst c2=>obtain⟨l',xs',ds',rfl,k1,k2,k3⟩:=h2.lstv p r2;cases v2;obtain⟨its',w2,pl',_⟩:=I.list k1;simp only[dep] at hu';simp only[eqT];exact SeqAt.RcAt.str_list _ _ pl'.isList (by omega)
 | .tup c,u,A,d,e,x,y,a,b,hu,hu',h1,h2,r1,r2,v1,v2=>by
  obtain⟨l,xs,ds,rfl,g1,g2,g3⟩:=h1.tupv r1;cases v1;obtain⟨its,w1,pt,_⟩:=I.tuple g1;simp only[dep] at hu
  cases u with
  | dic=>simp only[dep] at hu';omega
  | err _ _ _=>simp only[dep] at hu';omega
  | non=>have q:=h2.flat r2;subst q;cases v2;simp only[eqT];exact SeqAt.RcAt.tuple_none pt (by omega)
  | bl c2=>have q:=h2.flat r2;subst q;cases v2;simp only[eqT];exact SeqAt.RcAt.tuple_bool _ pt (by omega)
  | int c2=>have q:=h2.flat r2;subst q;obtain⟨tk2,rfl⟩:=v2;simp only[eqT];exact SeqAt.RcAt.tuple_int _ _ pt (by omega)
  | str c2=>have q:=h2.flat r2;subst q;obtain⟨tk2,rfl⟩:=v2;simp only[eqT];exact SeqAt.RcAt.tuple_str _ _ pt (by omega)
  | tup c2=>
   obtain⟨l',xs',ds',rfl,k1,k2,k3⟩:=h2.tupv r2;cases v2;obtain⟨its',w2,pt',_⟩:=I.tuple k1;simp only[dep] at hu'
   have e1:its.toArray.size=c.length:=by rw[List.size_toArray,<- w1.length,<- g2.length,<- g3.length]
   have e2:its'.toArray.size=c2.length:=by rw[List.size_toArray,<- w2.length,<- k2.length,<- k3.length]
   have q:=SeqAt.RcAt.tuples (A:=A) (e:=λ j=>eqT (c.getD j .non) (c2.getD j .non)) pt pt' (by omega) λ j h1 h2=>by
    have:=eqAt_Ts I p c c2 (A:=A.in1) (by show A.units+1+deps c<cLine;omega) (by show A.units+1+deps c2<cLine;omega) g3 k3 g2 k2 w1 w2 j (by simpa using h1) (by simpa using h2)
    simpa using this
   rw[e1,e2] at q
   simp only[eqT,eqTs_all]
   exact q
  | lst c2=>obtain⟨l',xs',ds',rfl,k1,k2,k3⟩:=h2.lstv p r2;cases v2;obtain⟨its',w2,pl',_⟩:=I.list k1;simp only[dep] at hu';simp only[eqT];exact SeqAt.RcAt.tuple_list pt pl'.isList (by omega)
 | .lst c,u,A,d,e,x,y,a,b,hu,hu',h1,h2,r1,r2,v1,v2=>by
  obtain⟨l,xs,ds,rfl,g1,g2,g3⟩:=h1.lstv p r1;cases v1;obtain⟨its,w1,pl,_⟩:=I.list g1;simp only[dep] at hu
  cases u with
  | dic=>simp only[dep] at hu';omega
  | err _ _ _=>simp only[dep] at hu';omega
  | non=>have q:=h2.flat r2;subst q;cases v2;simp only[eqT];exact SeqAt.RcAt.list_none pl.isList (by omega)
  | bl c2=>have q:=h2.flat r2;subst q;cases v2;simp only[eqT];exact SeqAt.RcAt.list_bool _ pl.isList (by omega)
  | int c2=>have q:=h2.flat r2;subst q;obtain⟨tk2,rfl⟩:=v2;simp only[eqT];exact SeqAt.RcAt.list_int _ _ pl.isList (by omega)
  | str c2=>have q:=h2.flat r2;subst q;obtain⟨tk2,rfl⟩:=v2;simp only[eqT];exact SeqAt.RcAt.list_str _ _ pl.isList (by omega)
  | tup c2=>obtain⟨l',xs',ds',rfl,k1,k2,k3⟩:=h2.tupv r2;cases v2;obtain⟨its',w2,pt',_⟩:=I.tuple k1;simp only[dep] at hu';simp only[eqT];exact SeqAt.RcAt.list_tuple pl.isList pt' (by omega)
  | lst c2=>
   obtain⟨l',xs',ds',rfl,k1,k2,k3⟩:=h2.lstv p r2;cases v2;obtain⟨its',w2,pl',_⟩:=I.list k1;simp only[dep] at hu'
   have e1:its.toArray.size=c.length:=by rw[List.size_toArray,<- w1.length,<- g2.length,<- g3.length]
   have e2:its'.toArray.size=c2.length:=by rw[List.size_toArray,<- w2.length,<- k2.length,<- k3.length]
   by_cases hsz:c.length=c2.length
   ·have q:=SeqAt.RcAt.lists (A:=A) (e:=λ j=>eqT (c.getD j .non) (c2.getD j .non)) pl.isList pl'.isList (by rw[e1,e2];exact hsz) (by omega) λ j h1 h2=>by
     have:=eqAt_Ts I p c c2 (A:=A.in1) (by show A.units+1+deps c<cLine;omega) (by show A.units+1+deps c2<cLine;omega) g3 k3 g2 k2 w1 w2 j (by simpa using h1) (by simpa using h2)
     simpa using this
    rw[e1] at q
    simp only[eqT,eqTs_all]
    rw[<- hsz,Nat.min_self]
    simpa using q
   ·have q:=SeqAt.RcAt.lists_lengths (A:=A) pl.isList pl'.isList (by rw[e1,e2];simpa using hsz) (by omega)
    simp only[eqT,eqTs_all]
    have z:(c.length == c2.length)=false:=by simpa using hsz
    rw[z,Bool.and_false]
    exact q
 | .dic,u,A,d,e,x,y,a,b,hu,hu',h1,h2,r1,r2,v1,v2=>by simp only[dep] at hu;omega
 | .err _ _ _,u,A,d,e,x,y,a,b,hu,hu',h1,h2,r1,r2,v1,v2=>by simp only[dep] at hu;omega
theorem rcNe_T (I:Inv X pins σ H s) (p:RepH X.K H S):∀ (t u:T) {A:Around}{d e:D}{x y:V}{a b:Value},A.units+dep t<cLine->A.units+dep u<cLine->Sn S t d->Sn S u e->RepD X.K H d x->RepD X.K H e y->RelV x a->RelV y b->SeqAt.RcNeAt A s a b (!eqT t u)
 | .non,u,A,d,e,x,y,a,b,hu,hu',h1,h2,r1,r2,v1,v2=>by
  have q:=h1.flat r1;subst q;cases v1
  cases u with
  | dic=>simp only[dep] at hu';omega
  | err _ _ _=>simp only[dep] at hu';omega
  | non=>have q:=h2.flat r2;subst q;cases v2;simp only[eqT,Bool.not_false,Bool.not_true];exact SeqAt.RcNeAt.none_none
  | bl c2=>have q:=h2.flat r2;subst q;cases v2;simp only[eqT,Bool.not_false,Bool.not_true];exact SeqAt.RcNeAt.none_bool _
  | int c2=>have q:=h2.flat r2;subst q;obtain⟨tk2,rfl⟩:=v2;simp only[eqT,Bool.not_false,Bool.not_true];exact SeqAt.RcNeAt.none_int _ _
  | str c2=>have q:=h2.flat r2;subst q;obtain⟨tk2,rfl⟩:=v2;simp only[eqT,Bool.not_false,Bool.not_true];exact SeqAt.RcNeAt.none_str _ _
  | tup c2=>obtain⟨l',xs',ds',rfl,k1,k2,k3⟩:=h2.tupv r2;cases v2;obtain⟨its',w2,pt',_⟩:=I.tuple k1;simp only[dep] at hu';simp only[eqT,Bool.not_false,Bool.not_true];exact SeqAt.RcNeAt.none_tuple pt' (by omega)
  | lst c2=>obtain⟨l',xs',ds',rfl,k1,k2,k3⟩:=h2.lstv p r2;cases v2;obtain⟨its',w2,pl',_⟩:=I.list k1;simp only[dep] at hu';simp only[eqT,Bool.not_false,Bool.not_true];exact SeqAt.RcNeAt.none_list pl'.isList (by omega)
 | .bl c,u,A,d,e,x,y,a,b,hu,hu',h1,h2,r1,r2,v1,v2=>by
  have q:=h1.flat r1;subst q;cases v1
  cases u with
  | dic=>simp only[dep] at hu';omega
  | err _ _ _=>simp only[dep] at hu';omega
  | non=>have q:=h2.flat r2;subst q;cases v2;simp only[eqT,Bool.not_false,Bool.not_true];exact SeqAt.RcNeAt.bool_none _
  | bl c2=>have q:=h2.flat r2;subst q;cases v2;simp only[eqT];exact SeqAt.RcNeAt.bool_bool _ _
  | int c2=>have q:=h2.flat r2;subst q;obtain⟨tk2,rfl⟩:=v2;simp only[eqT];exact SeqAt.RcNeAt.bool_int _ _ _
  | str c2=>have q:=h2.flat r2;subst q;obtain⟨tk2,rfl⟩:=v2;simp only[eqT,Bool.not_false,Bool.not_true];exact SeqAt.RcNeAt.bool_str _ _ _
  | tup c2=>obtain⟨l',xs',ds',rfl,k1,k2,k3⟩:=h2.tupv r2;cases v2;obtain⟨its',w2,pt',_⟩:=I.tuple k1;simp only[dep] at hu';simp only[eqT,Bool.not_false,Bool.not_true];exact SeqAt.RcNeAt.bool_tuple _ pt' (by omega)
  | lst c2=>obtain⟨l',xs',ds',rfl,k1,k2,k3⟩:=h2.lstv p r2;cases v2;obtain⟨its',w2,pl',_⟩:=I.list k1;simp only[dep] at hu';simp only[eqT,Bool.not_false,Bool.not_true];exact SeqAt.RcNeAt.bool_list _ pl'.isList (by omega)
 | .int c,u,A,d,e,x,y,a,b,hu,hu',h1,h2,r1,r2,v1,v2=>by
  have q:=h1.flat r1;subst q;obtain⟨tk,rfl⟩:=v1
  cases u with
  | dic=>simp only[dep] at hu';omega
  | err _ _ _=>simp only[dep] at hu';omega
  | non=>have q:=h2.flat r2;subst q;cases v2;simp only[eqT,Bool.not_false,Bool.not_true];exact SeqAt.RcNeAt.int_none _ _
  | bl c2=>have q:=h2.flat r2;subst q;cases v2;simp only[eqT];exact SeqAt.RcNeAt.int_bool _ _ _
  | int c2=>have q:=h2.flat r2;subst q;obtain⟨tk2,rfl⟩:=v2;simp only[eqT];exact SeqAt.RcNeAt.int_int _ _ _ _
  | str c2=>have q:=h2.flat r2;subst q;obtain⟨tk2,rfl⟩:=v2;simp only[eqT,Bool.not_false,Bool.not_true];exact SeqAt.RcNeAt.int_str _ _ _ _
  | tup c2=>obtain⟨l',xs',ds',rfl,k1,k2,k3⟩:=h2.tupv r2;cases v2;obtain⟨its',w2,pt',_⟩:=I.tuple k1;simp only[dep] at hu';simp only[eqT,Bool.not_false,Bool.not_true];exact SeqAt.RcNeAt.int_tuple _ _ pt' (by omega)
  | lst c2=>obtain⟨l',xs',ds',rfl,k1,k2,k3⟩:=h2.lstv p r2;cases v2;obtain⟨its',w2,pl',_⟩:=I.list k1;simp only[dep] at hu';simp only[eqT,Bool.not_false,Bool.not_true];exact SeqAt.RcNeAt.int_list _ _ pl'.isList (by omega)
 | .str c,u,A,d,e,x,y,a,b,hu,hu',h1,h2,r1,r2,v1,v2=>by
  have q:=h1.flat r1;subst q;obtain⟨tk,rfl⟩:=v1
  cases u with
  | dic=>simp only[dep] at hu';omega
  | err _ _ _=>simp only[dep] at hu';omega
  | non=>have q:=h2.flat r2;subst q;cases v2;simp only[eqT,Bool.not_false,Bool.not_true];exact SeqAt.RcNeAt.str_none _ _
  | bl c2=>have q:=h2.flat r2;subst q;cases v2;simp only[eqT,Bool.not_false,Bool.not_true];exact SeqAt.RcNeAt.str_bool _ _ _
  | int c2=>have q:=h2.flat r2;subst q;obtain⟨tk2,rfl⟩:=v2;simp only[eqT,Bool.not_false,Bool.not_true];exact SeqAt.RcNeAt.str_int _ _ _ _
  | str c2=>have q:=h2.flat r2;subst q;obtain⟨tk2,rfl⟩:=v2;simp only[eqT];exact SeqAt.RcNeAt.str_str _ _ _ _
  | tup c2=>obtain⟨l',xs',ds',rfl,k1,k2,k3⟩:=h2.tupv r2;cases v2;obtain⟨its',w2,pt',_⟩:=I.tuple k1;simp only[dep] at hu';simp only[eqT,Bool.not_false,Bool.not_true];exact SeqAt.RcNeAt.str_tuple _ _ pt' (by omega)
  | lst c2=>obtain⟨l',xs',ds',rfl,k1,k2,k3⟩:=h2.lstv p r2;cases v2;obtain⟨its',w2,pl',_⟩:=I.list k1;simp only[dep] at hu';simp only[eqT,Bool.not_false,Bool.not_true];exact SeqAt.RcNeAt.str_list _ _ pl'.isList (by omega)
 | .tup c,u,A,d,e,x,y,a,b,hu,hu',h1,h2,r1,r2,v1,v2=>by
  obtain⟨l,xs,ds,rfl,g1,g2,g3⟩:=h1.tupv r1;cases v1;obtain⟨its,w1,pt,_⟩:=I.tuple g1;simp only[dep] at hu
  cases u with
  | dic=>simp only[dep] at hu';omega
  | err _ _ _=>simp only[dep] at hu';omega
  | non=>have q:=h2.flat r2;subst q;cases v2;simp only[eqT,Bool.not_false,Bool.not_true];exact SeqAt.RcNeAt.tuple_none pt (by omega)
  | bl c2=>have q:=h2.flat r2;subst q;cases v2;simp only[eqT,Bool.not_false,Bool.not_true];exact SeqAt.RcNeAt.tuple_bool _ pt (by omega)
  | int c2=>have q:=h2.flat r2;subst q;obtain⟨tk2,rfl⟩:=v2;simp only[eqT,Bool.not_false,Bool.not_true];exact SeqAt.RcNeAt.tuple_int _ _ pt (by omega)
  | str c2=>have q:=h2.flat r2;subst q;obtain⟨tk2,rfl⟩:=v2;simp only[eqT,Bool.not_false,Bool.not_true];exact SeqAt.RcNeAt.tuple_str _ _ pt (by omega)
  | tup c2=>
   obtain⟨l',xs',ds',rfl,k1,k2,k3⟩:=h2.tupv r2;cases v2;obtain⟨its',w2,pt',_⟩:=I.tuple k1;simp only[dep] at hu'
   have e1:its.toArray.size=c.length:=by rw[List.size_toArray,<- w1.length,<- g2.length,<- g3.length]
   have e2:its'.toArray.size=c2.length:=by rw[List.size_toArray,<- w2.length,<- k2.length,<- k3.length]
   have q:=SeqAt.RcNeAt.tuples (A:=A) (e:=λ j=>eqT (c.getD j .non) (c2.getD j .non)) pt pt' (by omega) λ j h1 h2=>by
    have:=eqAt_Ts I p c c2 (A:=A.in1) (by show A.units+1+deps c<cLine;omega) (by show A.units+1+deps c2<cLine;omega) g3 k3 g2 k2 w1 w2 j (by simpa using h1) (by simpa using h2)
    simpa using this
   rw[e1,e2] at q
   simp only[eqT,eqTs_all]
   exact q
  | lst c2=>obtain⟨l',xs',ds',rfl,k1,k2,k3⟩:=h2.lstv p r2;cases v2;obtain⟨its',w2,pl',_⟩:=I.list k1;simp only[dep] at hu';simp only[eqT,Bool.not_false,Bool.not_true];exact SeqAt.RcNeAt.tuple_list pt pl'.isList (by omega)
 | .lst c,u,A,d,e,x,y,a,b,hu,hu',h1,h2,r1,r2,v1,v2=>by
  obtain⟨l,xs,ds,rfl,g1,g2,g3⟩:=h1.lstv p r1;cases v1;obtain⟨its,w1,pl,_⟩:=I.list g1;simp only[dep] at hu
  cases u with
  | dic=>simp only[dep] at hu';omega
  | err _ _ _=>simp only[dep] at hu';omega
  | non=>have q:=h2.flat r2;subst q;cases v2;simp only[eqT,Bool.not_false,Bool.not_true];exact SeqAt.RcNeAt.list_none pl.isList (by omega)
  | bl c2=>have q:=h2.flat r2;subst q;cases v2;simp only[eqT,Bool.not_false,Bool.not_true];exact SeqAt.RcNeAt.list_bool _ pl.isList (by omega)
  | int c2=>have q:=h2.flat r2;subst q;obtain⟨tk2,rfl⟩:=v2;simp only[eqT,Bool.not_false,Bool.not_true];exact SeqAt.RcNeAt.list_int _ _ pl.isList (by omega)
  | str c2=>have q:=h2.flat r2;subst q;obtain⟨tk2,rfl⟩:=v2;simp only[eqT,Bool.not_false,Bool.not_true];exact SeqAt.RcNeAt.list_str _ _ pl.isList (by omega)
  | tup c2=>obtain⟨l',xs',ds',rfl,k1,k2,k3⟩:=h2.tupv r2;cases v2;obtain⟨its',w2,pt',_⟩:=I.tuple k1;simp only[dep] at hu';simp only[eqT,Bool.not_false,Bool.not_true];exact SeqAt.RcNeAt.list_tuple pl.isList pt' (by omega)
  | lst c2=>
   obtain⟨l',xs',ds',rfl,k1,k2,k3⟩:=h2.lstv p r2;cases v2;obtain⟨its',w2,pl',_⟩:=I.list k1;simp only[dep] at hu'
   have e1:its.toArray.size=c.length:=by rw[List.size_toArray,<- w1.length,<- g2.length,<- g3.length]
   have e2:its'.toArray.size=c2.length:=by rw[List.size_toArray,<- w2.length,<- k2.length,<- k3.length]
   by_cases hsz:c.length=c2.length
   ·have q:=SeqAt.RcNeAt.lists (A:=A) (e:=λ j=>eqT (c.getD j .non) (c2.getD j .non)) pl.isList pl'.isList (by rw[e1,e2];exact hsz) (by omega) λ j h1 h2=>by
     have:=eqAt_Ts I p c c2 (A:=A.in1) (by show A.units+1+deps c<cLine;omega) (by show A.units+1+deps c2<cLine;omega) g3 k3 g2 k2 w1 w2 j (by simpa using h1) (by simpa using h2)
     simpa using this
    rw[e1] at q
    simp only[eqT,eqTs_all]
    rw[<- hsz,Nat.min_self]
    simpa using q
   ·have q:=SeqAt.RcNeAt.lists_lengths (A:=A) pl.isList pl'.isList (by rw[e1,e2];simpa using hsz) (by omega)
    simp only[eqT,eqTs_all]
    have z:(c.length == c2.length)=false:=by simpa using hsz
    rw[z,Bool.and_false]
    exact q
 | .dic,u,A,d,e,x,y,a,b,hu,hu',h1,h2,r1,r2,v1,v2=>by simp only[dep] at hu;omega
 | .err _ _ _,u,A,d,e,x,y,a,b,hu,hu',h1,h2,r1,r2,v1,v2=>by simp only[dep] at hu;omega
end
def rCmpT (K:PySem.W.Frag) (neg:Bool):R2:=λ x y H Q=>∃ S d e t u,RepD K H d x/\RepD K H e y/\RepH K H S/\Sn S t d/\Sn S u e/\dep t<=60/\dep u<=60/\Q (.bl (cond neg (!eqT t u) (eqT t u))) H
def fEq (neg:Bool):RD2:=λ x y S Q=>∃ t u,Sn S t x/\Sn S u y/\dep t<=60/\dep u<=60/\Q (.bl (cond neg (!eqT t u) (eqT t u))) S
theorem fEq.mo {neg:Bool}:MoR (fEq neg):=λ _ _ _ _ _ hq ⟨t,u,a,b,c,d,h⟩=>⟨t,u,a,b,c,d,hq _ _ h⟩
theorem fEq.fits {K:PySem.W.Frag}{neg:Bool}:Fits2 K (fEq neg) (rCmpT K neg):=λ x y d e H S Q h1 h2 h3 ⟨t,u,a,b,c,c',h⟩=>⟨S,d,e,t,u,h1,h2,h3,a,b,c,c',h _ H (by simp only[RepD]) (.refl H) h3⟩
section
variable {X:Cx}{a b:Expr}{ta tb:TDE}{pos:Pos}
theorem op_eqT (hu:X.A.units+64<cLine):OpR X (compareOp .Eq) (rCmpT X.K false):=by
 intro pins s σ H x y v u Q I rx ry h
 obtain⟨S,d,e,t,u',a1,a2,a3,a4,a5,a6,a7,q⟩:=h
 exact rcAt_T I a3 t u' (A:=X.A) (by omega) (by omega) a4 a5 a1 a2 rx ry X.prog X.w X.xe _ ⟨.bl _,H,I,rfl,q⟩
theorem op_neT (hu:X.A.units+64<cLine):OpR X (compareOp .NotEq) (rCmpT X.K true):=by
 intro pins s σ H x y v u Q I rx ry h
 obtain⟨S,d,e,t,u',a1,a2,a3,a4,a5,a6,a7,q⟩:=h
 exact rcNe_T I a3 t u' (A:=X.A) (by omega) (by omega) a4 a5 a1 a2 rx ry X.prog X.w X.xe _ ⟨.bl _,H,I,rfl,q⟩
theorem pd_eqT {k:Nat}(hr:Room k X.A) (ha:PD X a ta) (hb:PD X b tb):PD X (.Compare a [.Eq] [b] pos) (dOp (fEq false) ta tb):=pd_cmp (op_eqT hr.units) fEq.fits fEq.mo ha hb (nomark _)
theorem pdt_eqT {k:Nat}(hr:Room k X.A) (ha:PD X a ta) (hb:PD X b tb):PDT X (.Compare a [.Eq] [b] pos) (dTest (dOp (fEq false) ta tb)):=pdt_cmp (op_eqT hr.units) fEq.fits fEq.mo ha hb (nomark _)
theorem pdt_neT {k:Nat}(hr:Room k X.A) (ha:PD X a ta) (hb:PD X b tb):PDT X (.Compare a [.NotEq] [b] pos) (dTest (dOp (fEq true) ta tb)):=pdt_cmp (op_neT hr.units) fEq.fits fEq.mo ha hb (nomark _)
end
end L3
namespace L2
open PySem PySem.Spec PyProof.Rows
section
variable {κ:Type} [DecidableEq κ]
end
section
variable {P:Program}{w:World}{H:Hp}{h:Heap}{a:Addr}
end
section
variable {X:Cx}{pins:List (Addr×Obj)}{σ:St}{H:Hp}{s:Shared}{a:Addr}{y v:V}{u r:Value}{o:Option V}{A:Around}{E:Value->Shared->Prop}
theorem Inv.big (I:Inv X pins σ H s):sysModules<s.heap.objs.size:=by
 have h:mainGlobals<s.heap.objs.size:=(I.mod.glob.keeps I.bk).lt
 exact Nat.lt_trans (by decide) h
end
section
variable {X:Cx}{pins:List (Addr×Obj)}{σ:St}{H:Hp}{s:Shared}{a:Addr}{kvs:List (Key×V)}{k:Key}{u:Value}{A:Around}{E:Value->Shared->Prop}
end
section
variable {X:Cx}{o i e value:Expr}{pos pos' tpos:Pos}{td ty tv:TE}
end
theorem dk_empty {P:Program}{w:World}{H:Hp}(h:Heap) (hb:sysModules<h.objs.size):ObjOk P w H (h.push { cls:=.type "dict",data:=.dict #[] }) h.objs.size (.dK []):=
 ⟨Nat.zero_le _,beq_eq_false_iff_ne.mpr (Ne.symm (Nat.ne_of_lt hb)),[],.nil,Heap.DictOf.new h⟩
def tDNewK:TE:=λ _ H Q=>∀ p,H p=none->Q (.ref p) (upd H p (.dK []))
section
variable {X:Cx}{pos:Pos}
theorem pe_dnewK:PE X (.Dict [] [] pos) tDNewK:=λ pins s σ H Q I h=>
 wpAny_Dict_empty ⟨.ref s.heap.objs.size,_,I.laid (a:=s.heap.objs.size) (o:=.dK []) (t':=s.toks) (λ _ _ q=>Heap.get?_push_of_some _ q) (Nat.le_refl _) (dk_empty s.heap I.big),rfl,h _ (I.hok.fresh (Nat.le_refl _))⟩
end
section
variable {X:Cx}{pins:List (Addr×Obj)}{σ:St}{H:Hp}{s:Shared}{a:Addr}{y d:V}{u r:Value}{o:Option V}{A:Around}{E:Value->Shared->Prop}
end
section
variable {X:Cx}{o e f:Expr}{apos cpos:Pos}{td ty tx:TE}
end
section
variable {X:Cx}{pins:List (Addr×Obj)}{σ:St}{H:Hp}{s:Shared}{a:Addr}{kvs:List (Key×V)}{A:Around}{E:Value->Shared->Prop}
end
section
variable {X:Cx}{pins:List (Addr×Obj)}{σ:St}{H:Hp}{s:Shared}{a:Addr}{y:V}{u:Value}{A:Around}{E:Value->Shared->Prop}
end
end L2
namespace L3
open PySem PySem.Spec L2
open PyProof.Rows hiding St
section
variable {K:PySem.W.Frag}{H:Hp}
end
section
variable {X:Cx}{K:PySem.W.Frag}{o i e f v:Expr}{td ty tx tv:TDE}{pos pos' apos cpos:Pos}
def dDict0:TDE:=λ _ S Q=>∀ p,S p=none->Q (.ref p) (ups S p (.dct []))
theorem pd_dict0:PD X (.Dict [] [] pos) dDict0:=by
 refine⟨λ _ _ _ _ hq z p hp=>hq _ _ (z p hp),PE.imp pe_dnewK fun σ H Q hu p hp=>?_⟩
 obtain⟨δ,S,r1,r2,z⟩:=hu
 exact z p (r2.none hp) _ _ (by simp only[RepD]) (.new hp _) (r2.ups (.new hp _) ⟨[],upd_same,.nil⟩)
end
end L3
namespace L3
open PySem L2
section
variable {S S':SS}
mutual
theorem Sn.sx (h:Sx S S'):∀ (t:T) {d:D},Sn S t d->Sn S' t d
 | .non,d,q=>by simpa only [Sn] using q
 | .bl b,d,q=>by simpa only [Sn] using q
 | .int i,d,q=>by simpa only [Sn] using q
 | .str x,d,q=>by simpa only [Sn] using q
 | .tup ts,d,q=>by
  simp only[Sn] at q ⊢
  obtain⟨ds,q1,q2⟩:=q
  exact⟨ds,q1,Sns.sx h ts q2⟩
 | .lst ts,d,q=>by
  simp only[Sn] at q ⊢
  obtain⟨ds,q1,q2⟩:=q
  refine⟨ds,?_,Sns.sx h ts q2⟩
  rcases q1 with q1 | ⟨a,q1,q3⟩
  ·exact .inl q1
  ·exact .inr ⟨a,q1,h _ _ q3⟩
 | .err _ _ t,d,q=>by
  simp only[Sn] at q ⊢
  obtain⟨x,q1,q2⟩:=q
  exact⟨x,q1,Sn.sx h t q2⟩
 | .dic,d,q=>by
  simp only[Sn] at q ⊢
  obtain⟨a,kvs,q1,q2⟩:=q
  exact⟨a,kvs,q1,h _ _ q2⟩
theorem Sns.sx (h:Sx S S'):∀ (ts:List T) {ds:List D},Sns S ts ds->Sns S' ts ds
 | [],ds,q=>by simpa only [Sns] using q
 | t::ts,ds,q=>by
  simp only[Sns] at q ⊢
  obtain⟨c,cs,q1,q2,q3⟩:=q
  exact⟨c,cs,q1,Sn.sx h t q2,Sns.sx h ts q3⟩
end
theorem Sns.nil:Sns S [] []:=by simp only[Sns]
theorem Sns.cons {t:T}{ts:List T}{d:D}{ds:List D}(h:Sn S t d) (h':Sns S ts ds):Sns S (t::ts) (d::ds):=by
 simp only[Sns];exact⟨d,ds,rfl,h,h'⟩
theorem Sns.append:∀ {ts us:List T}{ds es:List D},Sns S ts ds->Sns S us es->Sns S (ts++us) (ds++es)
 | [],us,ds,es,h,h'=>by simp only[Sns] at h;subst h;simpa using h'
 | t::ts,us,ds,es,h,h'=>by
  simp only[Sns] at h
  obtain⟨c,cs,rfl,h1,h2⟩:=h
  exact Sns.cons h1 (Sns.append h2 h')
theorem Sns.getE:∀ {ts:List T}{ds:List D}{i:Nat}{t:T},Sns S ts ds->ts[i]?=some t->∃ d,ds[i]?=some d/\Sn S t d
 | [],_,i,t,_,e=>by simp at e
 | u::ts,ds,i,t,h,e=>by
  simp only[Sns] at h
  obtain⟨c,cs,rfl,h1,h2⟩:=h
  cases i with
  | zero=>simp at e;subst e;exact⟨c,rfl,h1⟩
  | succ i=>
   obtain⟨y,e1,e2⟩:=Sns.getE (i:=i) h2 (by simpa using e)
   exact⟨y,by simpa using e1,e2⟩
theorem Sns.getD':∀ {ts:List T}{ds:List D}{i:Nat}{d:D},Sns S ts ds->ds[i]?=some d->∃ t,ts[i]?=some t/\Sn S t d
 | [],ds,i,t,h,e=>by simp only[Sns] at h;subst h;simp at e
 | u::ts,ds,i,t,h,e=>by
  simp only[Sns] at h
  obtain⟨c,cs,rfl,h1,h2⟩:=h
  cases i with
  | zero=>simp at e;subst e;exact⟨u,rfl,h1⟩
  | succ i=>
   obtain⟨y,e1,e2⟩:=Sns.getD' (i:=i) h2 (by simpa using e)
   exact⟨y,by simpa using e1,e2⟩
theorem Sns.len {ts:List T}{ds:List D}(h:Sns S ts ds):ds.length=ts.length:=(L3.Sns.length h).symm
theorem Sns.at {ts:List T}{ds:List D}{i:Int}{t:T}(h:Sns S ts ds) (e:L2.atI ts i=some t):∃ d,L2.atI ds i=some d/\Sn S t d:=by
 unfold L2.atI at e ⊢
 rw[h.len]
 cases q:L2.ixN ts.length i with
 | none=>rw[q] at e;cases e
 | some j=>
  rw[q] at e
  exact h.getE e
theorem Sns.set':∀ {ts:List T}{ds:List D}{t:T}{d:D}(i:Nat),Sns S ts ds->Sn S t d->Sns S (ts.set i t) (ds.set i d)
 | [],ds,t,d,i,h,_=>by simp only[Sns] at h;subst h;simpa using Sns.nil
 | u::ts,ds,t,d,0,h,hd=>by
  simp only[Sns] at h
  obtain⟨c,cs,rfl,h1,h2⟩:=h
  exact Sns.cons hd h2
 | u::ts,ds,t,d,i+1,h,hd=>by
  simp only[Sns] at h
  obtain⟨c,cs,rfl,h1,h2⟩:=h
  exact Sns.cons h1 (Sns.set' i h2 hd)
theorem Sns.take':∀ {ts:List T}{ds:List D}(n:Nat),Sns S ts ds->Sns S (ts.take n) (ds.take n)
 | ts,ds,0,h=>by simpa using Sns.nil
 | [],ds,n+1,h=>by simp only[Sns] at h;subst h;simpa using Sns.nil
 | t::ts,ds,n+1,h=>by
  simp only[Sns] at h
  obtain⟨c,cs,rfl,h1,h2⟩:=h
  exact Sns.cons h1 (Sns.take' n h2)
theorem Sns.drop':∀ {ts:List T}{ds:List D}(n:Nat),Sns S ts ds->Sns S (ts.drop n) (ds.drop n)
 | ts,ds,0,h=>h
 | [],ds,n+1,h=>by simp only[Sns] at h;subst h;simpa using Sns.nil
 | t::ts,ds,n+1,h=>by
  simp only[Sns] at h
  obtain⟨c,cs,rfl,h1,h2⟩:=h
  exact Sns.drop' n h2
theorem Sns.empty {ts:List T}{ds:List D}(h:Sns S ts ds):ds.isEmpty=ts.isEmpty:=by
 have:=h.len
 cases ds <;> cases ts <;> simp_all
theorem Sns.bls:∀ {bs:List Bool}{ds:List D},Sns S (bs.map T.bl) ds->ds=bs.map D.bl
 | [],ds,h=>by simpa only [List.map_nil,Sns] using h
 | b::bs,ds,h=>by
  rw[List.map_cons] at h
  simp only[Sns,Sn] at h
  obtain⟨c,cs,rfl,rfl,h3⟩:=h
  rw[Sns.bls h3];rfl
end
end L3
namespace L5
open PySem L2 L3
noncomputable def hid (S:SS) (Z:Addr->Prop):SS:=open Classical in λ a=>if Z a then none else S a
section
variable {S S' S1:SS}{Z Z':Addr->Prop}{a p:Addr}
theorem hid_of (h:¬ Z a):hid S Z a=S a:=if_neg h
theorem hid_z (h:Z a):hid S Z a=none:=if_pos h
theorem hid_some {o:O}(h:hid S Z a=some o):¬ Z a/\S a=some o:=by
 by_cases z:Z a
 ·rw[hid_z z] at h;cases h
 ·rw[hid_of z] at h;exact⟨z,h⟩
theorem hid_sx (S:SS) (Z:Addr->Prop):Sx (hid S Z) S:=λ _ _ h=>(hid_some h).2
theorem hid_mono (h:Sx S S'):Sx (hid S Z) (hid S' Z):=λ b o q=>by
 obtain⟨q1,q2⟩:=hid_some q
 rw[hid_of q1];exact h _ _ q2
theorem hid_le (h:∀ a,Z' a->Z a):Sx (hid S Z) (hid S Z'):=λ b o q=>by
 obtain⟨q1,q2⟩:=hid_some q
 rw[hid_of (λ z=>q1 (h _ z))];exact q2
theorem hid_new (h:Sx S S') (hp:S p=none):Sx (hid S Z) (hid S' λ a=>Z a\/a=p):=λ b o q=>by
 obtain⟨q1,q2⟩:=hid_some q
 rw[hid_of]
 ·exact h _ _ q2
 ·rintro (z | z)
  ·exact q1 z
  ·subst z;rw[hp] at q2;cases q2
theorem hid_ups {o:O}(h:Z p):hid (ups S p o) Z=hid S Z:=by
 funext b
 by_cases z:Z b
 ·rw[hid_z z,hid_z z]
 ·rw[hid_of z,hid_of z,ups_ne (λ e=>z (by rw[e];exact h))]
end
inductive C where
 | lst (ts:List T) | dct (kvs:List (Key×T))
noncomputable def KVs (S:SS):List (Key×T)->List (Key×D)->Prop
 | [],l=>l=[]
 | (k,t)::r,l=>∃ d m,l=(k,d)::m/\Sn S t d/\KVs S r m
theorem KVs.sx {S S':SS}(h:Sx S S'):∀ {a:List (Key×T)}{b:List (Key×D)},KVs S a b->KVs S' a b
 | [],_,q=>q
 | (k,t)::r,_,q=>by
  obtain⟨d,m,q1,q2,q3⟩:=q
  exact⟨d,m,q1,Sn.sx h t q2,KVs.sx h q3⟩
noncomputable def RepC (S:SS):C->O->Prop
 | .lst ts,.lst ds=>Sns S ts ds
 | .dct a,.dct b=>KVs S a b
 | _,_=>False
theorem RepC.sx {S S':SS}(h:Sx S S'):∀ {c:C}{o:O},RepC S c o->RepC S' c o
 | .lst ts,.lst ds,q=>Sns.sx h ts q
 | .dct a,.dct b,q=>KVs.sx h q
inductive W where
 | im (t:T) | own (c:C)
abbrev Ev:=List (Option W)
structure ER (S:SS) (Z:Addr->Prop) (δ:StD) (ρ:Ev):Prop where
 zd:∀ a,Z a->S a≠none
 im:∀ (i:Nat) t,ρ[i]?=some (some (.im t))->∃ d,δ[i]?=some (some d)/\Sn (hid S Z) t d
 ow:∀ (i:Nat) c,ρ[i]?=some (some (.own c))->∃ p o,δ[i]?=some (some (.ref p))/\S p=some o/\RepC (hid S Z) c o/\Z p
def Vw (S:SS) (Z:Addr->Prop) (y:T) (d:D):Prop:=Sn (hid S Z) y d\/∃ ts p ds,y=.lst ts/\d=.ref p/\S p=some (.lst ds)/\Sns (hid S Z) ts ds/\Z p
abbrev Rk:=SS->SS->(Addr->Prop)->T->D->Prop
def RkR:Rk:=λ _ S' Z y d=>Vw S' Z y d
def RkV:Rk:=λ _ S' Z y d=>Sn (hid S' Z) y d
def RkF:Rk:=λ S S' Z y d=>Sn (hid S' Z) y d/\∀ ts,y=.lst ts->∃ p ds,d=.ref p/\S p=none/\S' p=some (.lst ds)/\Sns (hid S' λ a=>Z a\/a=p) ts ds
class Cl (R:Rk):Prop where
 cl:∀ {S S1 S':SS}{Z:Addr->Prop}{y:T}{d:D},Sx S S1->R S1 S' Z y d->R S S' Z y d
 of:∀ {S S':SS}{Z:Addr->Prop}{y:T}{d:D},(∀ ts,y≠.lst ts)->Sn (hid S' Z) y d->R S S' Z y d
instance:Cl RkR:=⟨λ _ h=>h,λ _ h=>.inl h⟩
instance:Cl RkV:=⟨λ _ h=>h,λ _ h=>h⟩
instance:Cl RkF:=⟨λ s h=>⟨h.1,λ ts e=>by
 obtain⟨p,ds,h1,h2,h3⟩:=h.2 ts e
 exact⟨p,ds,h1,s.none h2,h3⟩⟩,λ n h=>⟨h,λ ts e=>absurd e (n ts)⟩⟩
section
variable {S S' S1:SS}{Z Z':Addr->Prop}{δ:StD}{ρ:Ev}{y:T}{d:D}
theorem ER.grow (h:ER S Z δ ρ) (s:Sx S S'):ER S' Z δ ρ:=
 ⟨λ a z q=>h.zd a z (s.none q),λ i t e=>by
  obtain⟨d,h1,h2⟩:=h.im i t e
  exact⟨d,h1,Sn.sx (hid_mono s) t h2⟩,λ i ts e=>by
  obtain⟨p,ds,h1,h2,h3,h4⟩:=h.ow i ts e
  exact⟨p,ds,h1,s _ _ h2,RepC.sx (hid_mono s) h3,h4⟩⟩
theorem Vw.grow (h:Vw S Z y d) (s:Sx S S'):Vw S' Z y d:=by
 rcases h with h | ⟨ts,p,ds,h1,h2,h3,h4,h5⟩
 ·exact .inl (Sn.sx (hid_mono s) y h)
 ·exact .inr ⟨ts,p,ds,h1,h2,s _ _ h3,Sns.sx (hid_mono s) ts h4,h5⟩
theorem Vw.sn (h:Vw S Z y d):Sn S y d:=by
 rcases h with h | ⟨ts,p,ds,rfl,rfl,h3,h4,_⟩
 ·exact Sn.sx (hid_sx S Z) y h
 ·simp only[Sn]
  exact⟨ds,.inr ⟨p,rfl,h3⟩,Sns.sx (hid_sx S Z) ts h4⟩
theorem Vw.non (h:Vw S Z .non d):d=.non:=by
 rcases h with h | ⟨_,_,_,h,_⟩
 ·simpa only [Sn] using h
 ·cases h
theorem Vw.bl {b:Bool}(h:Vw S Z (.bl b) d):d=.bl b:=by
 rcases h with h | ⟨_,_,_,h,_⟩
 ·simpa only [Sn] using h
 ·cases h
theorem Vw.int {b:Int}(h:Vw S Z (.int b) d):d=.int b:=by
 rcases h with h | ⟨_,_,_,h,_⟩
 ·simpa only [Sn] using h
 ·cases h
theorem Vw.str {b:Str}(h:Vw S Z (.str b) d):d=.str b:=by
 rcases h with h | ⟨_,_,_,h,_⟩
 ·simpa only [Sn] using h
 ·cases h
theorem Vw.tup {ts:List T}(h:Vw S Z (.tup ts) d):∃ ds,d=.tup ds/\Sns (hid S Z) ts ds:=by
 rcases h with h | ⟨_,_,_,h,_⟩
 ·simpa only [Sn] using h
 ·cases h
theorem Vw.lst {ts:List T}(h:Vw S Z (.lst ts) d):∃ ds,(d=.rol ds\/∃ a,d=.ref a/\S a=some (.lst ds))/\Sns (hid S Z) ts ds:=by
 rcases h with h | ⟨us,p,ds,h1,h2,h3,h4,_⟩
 ·simp only[Sn] at h
  obtain⟨ds,h1,h2⟩:=h
  refine⟨ds,?_,h2⟩
  rcases h1 with h1 | ⟨a,h1,h3⟩
  ·exact .inl h1.1
  ·exact .inr ⟨a,h1,(hid_some h3).2⟩
 ·cases h1
  exact⟨ds,.inr ⟨p,h2,h3⟩,h4⟩
noncomputable def seqT:T->Option (List T)
 | .tup ts=>some ts
 | .lst ts=>some ts
 | _=>none
@[simp] theorem seqT_tup (ts:List T):seqT (.tup ts)=some ts:=rfl
@[simp] theorem seqT_lst (ts:List T):seqT (.lst ts)=some ts:=rfl
theorem Vw.seq {ts:List T}(h:Vw S Z y d) (e:seqT y=some ts):∃ ds,seqOf d S=some ds/\Sns (hid S Z) ts ds:=by
 cases y with
 | tup us=>cases e;obtain⟨ds,rfl,h2⟩:=h.tup;exact⟨ds,rfl,h2⟩
 | lst us=>
  cases e
  obtain⟨ds,h1 | ⟨a,rfl,h1⟩,h2⟩:=h.lst
  ·subst h1;exact⟨ds,rfl,h2⟩
  ·exact⟨ds,by unfold seqOf;dsimp only;rw[h1],h2⟩
 | non=>cases e
 | bl _=>cases e
 | int _=>cases e
 | str _=>cases e
 | dic=>cases e
 | err _ _ _=>cases e
theorem Vw.dic (h:Vw S Z .dic d):∃ a kvs,(d=.ref a/\kvs=[])/\S a=some (.dct kvs):=by
 rcases h with h | ⟨_,_,_,h,_⟩
 ·simp only[Sn] at h
  obtain⟨a,kvs,h1,h2⟩:=h
  exact⟨a,kvs,h1,(hid_some h2).2⟩
 ·cases h
theorem sn_non:Sn S .non .non:=by simp only[Sn]
theorem sn_bl {b:Bool}:Sn S (.bl b) (.bl b):=by simp only[Sn]
theorem sn_int {i:Int}:Sn S (.int i) (.int i):=by simp only[Sn]
theorem sn_str {x:Str}:Sn S (.str x) (.str x):=by simp only[Sn]
theorem sn_tup {ts:List T}{ds:List D}(h:Sns S ts ds):Sn S (.tup ts) (.tup ds):=by simp only[Sn];exact⟨ds,rfl,h⟩
theorem rkF_new {ts:List T}{ds:List D}{p:Addr}(hz:∀ a,Z a->S a≠none) (hp:S p=none) (h:Sns (hid S Z) ts ds):RkF S (ups S p (.lst ds)) Z (.lst ts) (.ref p):=by
 have nz:¬ Z p:=λ z=>hz p z hp
 have s:Sx S (ups S p (.lst ds)):=.new hp _
 refine⟨?_,λ us e=>?_⟩
 ·simp only[Sn]
  exact⟨ds,.inr ⟨p,rfl,by rw[hid_of nz,ups_same]⟩,Sns.sx (hid_mono s) ts h⟩
 ·cases e
  exact⟨p,ds,rfl,hp,ups_same,Sns.sx (hid_new s hp) ts h⟩
end
def OkX (R:Rk) (f:Ev->Option T) (t:TDE):Prop:=∀ S Z δ ρ y Q,ER S Z δ ρ->f ρ=some y->(∀ d S',Sx S S'->R S S' Z y d->Q d S')->t δ S Q
abbrev OkE:=OkX RkV
abbrev OkR:=OkX RkR
abbrev OkF:=OkX RkF
theorem OkX.imp {R R':Rk}{f:Ev->Option T}{t:TDE}(h:OkX R f t) (i:∀ S S' Z y d,R S S' Z y d->R' S S' Z y d):OkX R' f t:=λ S Z δ ρ y Q hE e hq=>h S Z δ ρ y Q hE e λ d S' s r=>hq d S' s (i _ _ _ _ _ r)
theorem OkX.er {f:Ev->Option T}{t:TDE}(h:OkE f t):OkR f t:=h.imp λ _ _ _ _ _ r=>.inl r
theorem OkX.fe {f:Ev->Option T}{t:TDE}(h:OkF f t):OkE f t:=h.imp λ _ _ _ _ _ r=>r.1
theorem OkX.fr {f:Ev->Option T}{t:TDE}(h:OkF f t):OkR f t:=h.fe.er
@[simp] noncomputable def varS (i:Nat):Ev->Option T:=fun ρ=>match ρ[i]? with
 | some (some (.im t))=>some t
 | _=>none
@[simp] noncomputable def vrS (i:Nat):Ev->Option T:=fun ρ=>match ρ[i]? with
 | some (some (.im t))=>some t
 | some (some (.own (.lst ts)))=>some (.lst ts)
 | _=>none
@[simp] noncomputable def cS (t:T):Ev->Option T:=λ _=>some t
theorem ok_var (i:Nat):OkE (varS i) (dVar i):=λ S Z δ ρ y Q hE e hq=>by
 unfold varS at e
 split at e
 ·rename_i t h
  cases e
  obtain⟨d,h1,h2⟩:=hE.im i _ h
  unfold dVar;rw[h1]
  exact hq d S (.refl S) h2
 ·cases e
theorem ok_vr (i:Nat):OkR (vrS i) (dVar i):=λ S Z δ ρ y Q hE e hq=>by
 unfold vrS at e
 split at e
 ·rename_i t h
  cases e
  obtain⟨d,h1,h2⟩:=hE.im i _ h
  unfold dVar;rw[h1]
  exact hq d S (.refl S) (.inl h2)
 ·rename_i ts h
  cases e
  obtain⟨p,o,h1,h2,h3,h4⟩:=hE.ow i _ h
  unfold dVar;rw[h1]
  cases o with
  | dct _=>exact h3.elim
  | lst ds=>exact hq _ S (.refl S) (.inr ⟨ts,p,ds,rfl,rfl,h2,h3,h4⟩)
 ·cases e
theorem ok_int (i:Int):OkF (cS (.int i)) (dC (.int i)):=λ S Z δ ρ y Q hE e hq=>by cases e;exact hq _ S (.refl S) (Cl.of (λ _=>nofun) sn_int)
theorem ok_bl (i:Bool):OkF (cS (.bl i)) (dC (.bl i)):=λ S Z δ ρ y Q hE e hq=>by cases e;exact hq _ S (.refl S) (Cl.of (λ _=>nofun) sn_bl)
theorem ok_str (i:Str):OkF (cS (.str i)) (dC (.str i)):=λ S Z δ ρ y Q hE e hq=>by cases e;exact hq _ S (.refl S) (Cl.of (λ _=>nofun) sn_str)
theorem ok_non:OkF (cS .non) (dC .non):=λ S Z δ ρ y Q hE e hq=>by cases e;exact hq _ S (.refl S) (Cl.of (λ _=>nofun) sn_non)
@[simp] noncomputable def opS (f:T->T->Option T) (fa fb:Ev->Option T):Ev->Option T:=fun ρ=>(fa ρ).bind λ x=>(fb ρ).bind λ y=>f x y
def Good2 (R:Rk) (f:T->T->Option T) (g:RD2):Prop:=∀ S Z x y z d e Q,(∀ a,Z a->S a≠none)->Vw S Z x d->Vw S Z y e->f x y=some z->(∀ c S',Sx S S'->R S S' Z z c->Q c S')->g d e S Q
theorem ok_op {R:Rk} [Cl R] {f:T->T->Option T}{g:RD2}{fa fb:Ev->Option T}{ta tb:TDE}(hg:Good2 R f g) (ha:OkR fa ta) (hb:OkR fb tb):OkX R (opS f fa fb) (dOp g ta tb):=λ S Z δ ρ y Q hE e hq=>by
 unfold opS at e
 obtain⟨x,e1,e⟩:=Option.bind_eq_some_iff.mp e
 obtain⟨z,e2,e⟩:=Option.bind_eq_some_iff.mp e
 refine ha S Z δ ρ x _ hE e1 λ d S1 s1 r1=>?_
 refine hb S1 Z δ ρ z _ (hE.grow s1) e2 λ d2 S2 s2 r2=>?_
 exact hg S2 Z x z y d d2 Q ((hE.grow (s1.trans s2)).zd) (Vw.grow r1 s2) r2 e λ c S' s r=>hq c S' ((s1.trans s2).trans s) (Cl.cl (s1.trans s2) r)
@[simp] noncomputable def i2 (g:Int->Int->T):T->T->Option T
 | .int i,.int j=>some (g i j)
 | _,_=>none
instance {i j:Int}:Decidable (CMul i j):=by unfold CMul;infer_instance
instance {i j:Int}:Decidable (CDiv i j):=by unfold CDiv;infer_instance
instance {i j:Int}:Decidable (CPow i j):=by unfold CPow;infer_instance
@[simp] noncomputable def i2c (C:Int->Int->Prop) [∀ i j,Decidable (C i j)] (g:Int->Int->T):T->T->Option T
 | .int i,.int j=>if C i j then some (g i j) else none
 | _,_=>none
theorem good_i2 {g:Int->Int->T}{g':Int->Int->D}(h:∀ i j S,Sn S (g i j) (g' i j)) (n:∀ i j ts,g i j≠.lst ts):Good2 RkF (i2 g) (fI0 g'):=λ S Z x y z d e Q hz hx hy ef hq=>by
 unfold i2 at ef
 split at ef
 ·cases ef
  cases hx.int;cases hy.int
  exact hq _ S (.refl S) (Cl.of (n _ _) (h _ _ _))
 ·cases ef
theorem good_i2c {C:Int->Int->Prop} [∀ i j,Decidable (C i j)] {g:Int->Int->T}{g':Int->Int->D}(h:∀ i j S,Sn S (g i j) (g' i j)) (n:∀ i j ts,g i j≠.lst ts):Good2 RkF (i2c C g) (fI C g'):=λ S Z x y z d e Q hz hx hy ef hq=>by
 unfold i2c at ef
 split at ef
 ·split at ef
  ·rename_i hh
   cases ef
   cases hx.int;cases hy.int
   exact⟨hh,hq _ S (.refl S) (Cl.of (n _ _) (h _ _ _))⟩
  ·cases ef
 ·cases ef
@[simp] noncomputable def subT:T->T->Option T:=i2 λ i j=>.int (i-j)
@[simp] noncomputable def modT:T->T->Option T:=i2c (λ _ j=>0<j) λ i j=>.int (i%j)
@[simp] noncomputable def fdivT:T->T->Option T:=i2c CDiv λ i j=>.int (i/j)
@[simp] noncomputable def powT:T->T->Option T:=i2c CPow λ i j=>.int (i ^ j.toNat)
@[simp] noncomputable def shrT:T->T->Option T:=i2c (λ _ j=>0<=j) λ i j=>.int (i/2 ^ j.toNat)
@[simp] noncomputable def bandT:T->T->Option T:=i2 λ i j=>.int (Builtin.bitAnd i j)
@[simp] noncomputable def leI:T->T->Option T:=i2 λ i j=>.bl (decide (i<=j))
@[simp] noncomputable def gtI:T->T->Option T:=i2 λ i j=>.bl (decide (j<i))
@[simp] noncomputable def geI:T->T->Option T:=i2 λ i j=>.bl (decide (j<=i))
section
variable {fa fb:Ev->Option T}{ta tb:TDE}
theorem ok_sub (ha:OkR fa ta) (hb:OkR fb tb):OkF (opS subT fa fb) (dOp (fI0 λ i j=>.int (i-j)) ta tb):=ok_op (good_i2 (λ _ _ _=>sn_int) λ _ _ _=>nofun) ha hb
theorem ok_mod (ha:OkR fa ta) (hb:OkR fb tb):OkF (opS modT fa fb) (dOp (fI (λ _ j=>0<j) λ i j=>.int (i%j)) ta tb):=ok_op (good_i2c (λ _ _ _=>sn_int) λ _ _ _=>nofun) ha hb
theorem ok_fdiv (ha:OkR fa ta) (hb:OkR fb tb):OkF (opS fdivT fa fb) (dOp (fI CDiv λ i j=>.int (i/j)) ta tb):=ok_op (good_i2c (λ _ _ _=>sn_int) λ _ _ _=>nofun) ha hb
theorem ok_pow (ha:OkR fa ta) (hb:OkR fb tb):OkF (opS powT fa fb) (dOp (fI CPow λ i j=>.int (i ^ j.toNat)) ta tb):=ok_op (good_i2c (λ _ _ _=>sn_int) λ _ _ _=>nofun) ha hb
theorem ok_shr (ha:OkR fa ta) (hb:OkR fb tb):OkF (opS shrT fa fb) (dOp (fI (λ _ j=>0<=j) λ i j=>.int (i/2 ^ j.toNat)) ta tb):=ok_op (good_i2c (λ _ _ _=>sn_int) λ _ _ _=>nofun) ha hb
theorem ok_band (ha:OkR fa ta) (hb:OkR fb tb):OkF (opS bandT fa fb) (dOp (fI0 λ i j=>.int (Builtin.bitAnd i j)) ta tb):=ok_op (good_i2 (λ _ _ _=>sn_int) λ _ _ _=>nofun) ha hb
theorem ok_gt (ha:OkR fa ta) (hb:OkR fb tb):OkF (opS gtI fa fb) (dOp fGt ta tb):=ok_op (good_i2 (λ _ _ _=>sn_bl) λ _ _ _=>nofun) ha hb
theorem ok_ge (ha:OkR fa ta) (hb:OkR fb tb):OkF (opS geI fa fb) (dOp fGe ta tb):=ok_op (good_i2 (λ _ _ _=>sn_bl) λ _ _ _=>nofun) ha hb
end
noncomputable def eqS (neg:Bool):T->T->Option T:=λ x y=>if dep x<=60/\dep y<=60 then some (.bl (cond neg (!eqT x y) (eqT x y))) else none
theorem good_eq {neg:Bool}:Good2 RkF (eqS neg) (fEq neg):=λ S Z x y z d e Q hz hx hy ef hq=>by
 unfold eqS at ef
 split at ef
 ·rename_i h
  cases ef
  exact⟨x,y,hx.sn,hy.sn,h.1,h.2,hq _ S (.refl S) (Cl.of (λ _=>nofun) sn_bl)⟩
 ·cases ef
@[simp] noncomputable def ixS:T->T->Option T:=λ x y=>match seqT x,y with
 | some ts,.int i=>L2.atI ts i
 | _,_=>none
theorem good_ix:Good2 RkV ixS fIx:=λ S Z x y z d e Q hz hx hy ef hq=>by
 unfold ixS at ef
 split at ef
 ·rename_i ts i ht
  cases hy.int
  obtain⟨ds,h1,h2⟩:=hx.seq ht
  obtain⟨c,h3,h4⟩:=h2.at ef
  unfold seqOf at h1
  split at h1
  ·cases h1;exact fIx_tup h3 (hq c S (.refl S) h4)
  ·cases h1;exact fIx_rol h3 (hq c S (.refl S) h4)
  ·split at h1
   ·rename_i q
    cases h1
    exact fIx_ref q h3 (hq c S (.refl S) h4)
   ·cases h1
  ·cases h1
 ·cases ef
@[simp] noncomputable def addS:T->T->Option T
 | .int i,.int j=>some (.int (i+j))
 | .str i,.str j=>if i.length+j.length<=sizeLine then some (.str (i++j)) else none
 | .lst ts,.lst us=>if ts.length+us.length<=sizeLine then some (.lst (ts++us)) else none
 | .tup ts,.tup us=>if ts.length+us.length<=sizeLine then some (.tup (ts++us)) else none
 | _,_=>none
def fAddV:RD2:=λ x y S Q=>match x,y with
 | .int i,.int j=>Q (.int (i+j)) S
 | .str i,.str j=>i.length+j.length<=sizeLine/\Q (.str (i++j)) S
 | .tup ds,.tup es=>ds.length+es.length<=sizeLine/\Q (.tup (ds++es)) S
 | .non,_=>False
 | .bl _,_=>False
 | .int _,_=>False
 | .str _,_=>False
 | .tup _,_=>False
 | x,y=>match seqOf x S,seqOf y S with
  | some ds,some es=>(∀ ts,y≠.tup ts)/\ds.length+es.length<=sizeLine/\∀ r,S r=none->Q (.ref r) (ups S r (.lst (ds++es)))
  | _,_=>False
theorem good_add:Good2 RkF addS fAddV:=λ S Z x y z d e Q hz hx hy ef hq=>by
 unfold addS at ef
 split at ef
 ·cases ef;cases hx.int;cases hy.int
  exact hq _ S (.refl S) (Cl.of (λ _=>nofun) sn_int)
 ·split at ef
  ·rename_i h
   cases ef;cases hx.str;cases hy.str
   exact⟨h,hq _ S (.refl S) (Cl.of (λ _=>nofun) sn_str)⟩
  ·cases ef
 ·split at ef
  ·rename_i h
   cases ef
   obtain⟨ds,h1,h2⟩:=hx.seq rfl
   obtain⟨es,h3,h4⟩:=hy.seq rfl
   have nt:∀ ts,e≠.tup ts:=by
    obtain⟨_,q | ⟨_,q,_⟩,_⟩:=hy.lst <;> subst q <;> exact λ _=>nofun
   have key:(∀ ts,e≠.tup ts)/\ds.length+es.length<=sizeLine/\∀ r,S r=none->Q (.ref r) (ups S r (.lst (ds++es))):=
    ⟨nt,by rw[h2.len,h4.len];exact h,λ r hr=>hq _ _ (.new hr _) (rkF_new hz hr (h2.append h4))⟩
   obtain⟨_,q | ⟨a,q,_⟩,_⟩:=hx.lst
   ·subst q;unfold fAddV;dsimp only;rw[h1,h3];exact key
   ·subst q;unfold fAddV;dsimp only;rw[h1,h3];exact key
  ·cases ef
 ·split at ef
  ·rename_i h
   cases ef
   obtain⟨ds,rfl,h2⟩:=hx.tup
   obtain⟨es,rfl,h4⟩:=hy.tup
   exact⟨by rw[h2.len,h4.len];exact h,hq _ S (.refl S) (Cl.of (λ _=>nofun) (sn_tup (h2.append h4)))⟩
  ·cases ef
 ·cases ef
def OkT (f:Ev->Option Bool) (t:TDT):Prop:=∀ S Z δ ρ y Q,ER S Z δ ρ->f ρ=some y->(∀ S',Sx S S'->Q y S')->t δ S Q
@[simp] noncomputable def tstS (f:Ev->Option T):Ev->Option Bool:=fun ρ=>(f ρ).bind λ x=>match x with
 | .bl b=>some b
 | _=>none
@[simp] noncomputable def truT:T->Option Bool
 | .non=>some false
 | .bl b=>some b
 | .int i=>some (i != 0)
 | .str x=>if x.length<=sizeLine then some ((x.length:Int) != 0) else none
 | .tup ts=>some (!ts.isEmpty)
 | .lst ts=>some (!ts.isEmpty)
 | .dic=>none
 | .err _ _ _=>none
@[simp] noncomputable def truS (f:Ev->Option T):Ev->Option Bool:=fun ρ=>(f ρ).bind truT
@[simp] noncomputable def eAndS (f g:Ev->Option Bool):Ev->Option Bool:=fun ρ=>(f ρ).bind λ b=>if b=true then g ρ else some false
@[simp] noncomputable def eOrS (f g:Ev->Option Bool):Ev->Option Bool:=fun ρ=>(f ρ).bind λ b=>if b=true then some true else g ρ
@[simp] noncomputable def eNotS (f:Ev->Option Bool):Ev->Option Bool:=fun ρ=>(f ρ).map (!·)
section
variable {f g:Ev->Option T}{t u:TDE}{fb gb:Ev->Option Bool}{tb ub:TDT}{R:Rk}
theorem ok_tst (h:OkR f t):OkT (tstS f) (dTest t):=λ S Z δ ρ y Q hE e hq=>by
 obtain⟨x,e1,e2⟩:=Option.bind_eq_some_iff.mp e
 refine h S Z δ ρ x _ hE e1 λ d S1 s1 r1=>?_
 split at e2
 ·cases e2
  cases Vw.bl r1
  exact hq S1 s1
 ·cases e2
theorem ok_tru (h:OkR f t):OkT (truS f) (eTru t):=λ S Z δ ρ y Q hE e hq=>by
 obtain⟨x,e1,e2⟩:=Option.bind_eq_some_iff.mp e
 refine h S Z δ ρ x _ hE e1 λ d S1 s1 r1=>?_
 cases x with
 | non=>cases Vw.non r1;cases e2;exact hq S1 s1
 | bl b=>cases Vw.bl r1;cases e2;exact hq S1 s1
 | int b=>cases Vw.int r1;cases e2;exact hq S1 s1
 | str b=>
  cases Vw.str r1
  simp only[truT] at e2
  split at e2
  ·rename_i hh
   cases e2;exact⟨hh,hq S1 s1⟩
  ·cases e2
 | tup ts=>
  obtain⟨ds,rfl,h2⟩:=Vw.tup r1
  cases e2
  show Q (!ds.isEmpty) S1
  rw[h2.empty];exact hq S1 s1
 | lst ts=>
  obtain⟨ds,rfl | ⟨a,rfl,h1⟩,h2⟩:=Vw.lst r1
  ·cases e2
   show Q (!ds.isEmpty) S1
   rw[h2.empty];exact hq S1 s1
  ·cases e2
   refine tru_ref h1 ?_
   rw[h2.empty];exact hq S1 s1
 | dic=>cases e2
 | err _ _ _=>cases e2
theorem ok_eand (h:OkT fb tb) (h':OkT gb ub):OkT (eAndS fb gb) (eAnd tb ub):=λ S Z δ ρ y Q hE e hq=>by
 obtain⟨b,e1,e2⟩:=Option.bind_eq_some_iff.mp e
 refine h S Z δ ρ b _ hE e1 λ S1 s1=>?_
 split at e2
 ·rename_i hb;rw[if_pos hb]
  exact h' S1 Z δ ρ y _ (hE.grow s1) e2 λ S2 s2=>hq S2 (s1.trans s2)
 ·rename_i hb;rw[if_neg hb];cases e2;exact hq S1 s1
theorem ok_eor (h:OkT fb tb) (h':OkT gb ub):OkT (eOrS fb gb) (eOr tb ub):=λ S Z δ ρ y Q hE e hq=>by
 obtain⟨b,e1,e2⟩:=Option.bind_eq_some_iff.mp e
 refine h S Z δ ρ b _ hE e1 λ S1 s1=>?_
 split at e2
 ·rename_i hb;rw[if_pos hb];cases e2;exact hq S1 s1
 ·rename_i hb;rw[if_neg hb]
  exact h' S1 Z δ ρ y _ (hE.grow s1) e2 λ S2 s2=>hq S2 (s1.trans s2)
theorem ok_enot (h:OkT fb tb):OkT (eNotS fb) (eNot tb):=λ S Z δ ρ y Q hE e hq=>by
 unfold eNotS at e
 obtain⟨b,e1,rfl⟩:=Option.map_eq_some_iff.mp e
 exact h S Z δ ρ b _ hE e1 λ S1 s1=>hq S1 s1
@[simp] noncomputable def andS (f g:Ev->Option T):Ev->Option T:=fun ρ=>(f ρ).bind λ x=>match x with
 | .bl k=>if k=true then g ρ else some (.bl false)
 | _=>none
@[simp] noncomputable def notS (f:Ev->Option T):Ev->Option T:=fun ρ=>(f ρ).bind λ x=>match x with
 | .bl k=>some (.bl (!k))
 | _=>none
theorem ok_and [Cl R] (h:OkR f t) (h':OkX R g u):OkX R (andS f g) (dAnd t u):=λ S Z δ ρ y Q hE e hq=>by
 obtain⟨x,e1,e2⟩:=Option.bind_eq_some_iff.mp e
 refine h S Z δ ρ x _ hE e1 λ d S1 s1 r1=>?_
 split at e2
 ·cases Vw.bl r1
  split at e2
  ·rename_i hb
   dsimp only;rw[if_pos hb]
   exact h' S1 Z δ ρ y _ (hE.grow s1) e2 λ d S2 s2 r2=>hq d S2 (s1.trans s2) (Cl.cl s1 r2)
  ·rename_i hb
   dsimp only;rw[if_neg hb]
   cases e2
   exact hq _ S1 s1 (Cl.of (λ _=>nofun) sn_bl)
 ·cases e2
theorem ok_not [Cl R] (h:OkR f t):OkX R (notS f) (dNot t):=λ S Z δ ρ y Q hE e hq=>by
 obtain⟨x,e1,e2⟩:=Option.bind_eq_some_iff.mp e
 refine h S Z δ ρ x _ hE e1 λ d S1 s1 r1=>?_
 split at e2
 ·cases Vw.bl r1
  cases e2
  exact hq _ S1 s1 (Cl.of (λ _=>nofun) sn_bl)
 ·cases e2
end
noncomputable def Vws (S:SS) (Z:Addr->Prop):List T->List D->Prop
 | [],ds=>ds=[]
 | t::ts,ds=>∃ c cs,ds=c::cs/\Vw S Z t c/\Vws S Z ts cs
def OkA (f:Ev->Option (List T)) (t:TDA):Prop:=∀ S Z δ ρ ys Q,ER S Z δ ρ->f ρ=some ys->(∀ ds S',Sx S S'->Vws S' Z ys ds->Q ds S')->t δ S Q
def OkAV (f:Ev->Option (List T)) (t:TDA):Prop:=∀ S Z δ ρ ys Q,ER S Z δ ρ->f ρ=some ys->(∀ ds S',Sx S S'->Sns (hid S' Z) ys ds->Q ds S')->t δ S Q
@[simp] noncomputable def nilS:Ev->Option (List T):=λ _=>some []
@[simp] noncomputable def consS (f:Ev->Option T) (g:Ev->Option (List T)):Ev->Option (List T):=fun ρ=>(f ρ).bind λ x=>(g ρ).bind λ xs=>some (x::xs)
section
variable {f:Ev->Option T}{g:Ev->Option (List T)}{t:TDE}{u:TDA}
theorem oka_nil:OkA nilS dNil:=λ S Z δ ρ y Q hE e hq=>by cases e;exact hq [] S (.refl S) rfl
theorem okav_nil:OkAV nilS dNil:=λ S Z δ ρ y Q hE e hq=>by cases e;exact hq [] S (.refl S) .nil
theorem oka_cons (h:OkR f t) (h':OkA g u):OkA (consS f g) (dCons t u):=λ S Z δ ρ y Q hE e hq=>by
 obtain⟨x,e1,e0⟩:=Option.bind_eq_some_iff.mp e
 obtain⟨xs,e2,e3⟩:=Option.bind_eq_some_iff.mp e0
 cases e3
 refine h S Z δ ρ x _ hE e1 λ d S1 s1 r1=>?_
 refine h' S1 Z δ ρ xs _ (hE.grow s1) e2 λ ds S2 s2 r2=>?_
 exact hq _ S2 (s1.trans s2) ⟨d,ds,rfl,Vw.grow r1 s2,r2⟩
theorem okav_cons (h:OkE f t) (h':OkAV g u):OkAV (consS f g) (dCons t u):=λ S Z δ ρ y Q hE e hq=>by
 obtain⟨x,e1,e0⟩:=Option.bind_eq_some_iff.mp e
 obtain⟨xs,e2,e3⟩:=Option.bind_eq_some_iff.mp e0
 cases e3
 refine h S Z δ ρ x _ hE e1 λ d S1 s1 r1=>?_
 refine h' S1 Z δ ρ xs _ (hE.grow s1) e2 λ ds S2 s2 r2=>?_
 exact hq _ S2 (s1.trans s2) (.cons (Sn.sx (hid_mono s2) x r1) r2)
@[simp] noncomputable def tupS (g:Ev->Option (List T)):Ev->Option T:=fun ρ=>(g ρ).bind λ xs=>if xs.length<=sizeLine then some (.tup xs) else none
@[simp] noncomputable def lstS (g:Ev->Option (List T)):Ev->Option T:=fun ρ=>(g ρ).bind λ xs=>if xs.length<=sizeLine then some (.lst xs) else none
theorem ok_tup (h:OkAV g u):OkF (tupS g) (dTup u):=λ S Z δ ρ y Q hE e hq=>by
 obtain⟨xs,e1,e2⟩:=Option.bind_eq_some_iff.mp e
 split at e2
 ·rename_i hl
  cases e2
  refine h S Z δ ρ xs _ hE e1 λ ds S1 s1 r1=>⟨by rw[r1.len];exact hl,hq _ S1 s1 (Cl.of (λ _=>nofun) (sn_tup r1))⟩
 ·cases e2
theorem ok_lst (h:OkAV g u):OkF (lstS g) (dLst u):=λ S Z δ ρ y Q hE e hq=>by
 obtain⟨xs,e1,e2⟩:=Option.bind_eq_some_iff.mp e
 split at e2
 ·rename_i hl
  cases e2
  refine h S Z δ ρ xs _ hE e1 λ ds S1 s1 r1=>⟨by rw[r1.len];exact hl,λ p hp=>hq _ _ (s1.trans (.new hp _)) (Cl.cl s1 (rkF_new (hE.grow s1).zd hp r1))⟩
 ·cases e2
end
@[simp] noncomputable def cbS (F:List T->Option T) (g:Ev->Option (List T)):Ev->Option T:=fun ρ=>(g ρ).bind F
def GoodN (R:Rk) (F:List T->Option T) (f:RDn):Prop:=∀ S Z ys z ds Q,(∀ a,Z a->S a≠none)->Vws S Z ys ds->F ys=some z->(∀ c S',Sx S S'->R S S' Z z c->Q c S')->f ds S Q
theorem ok_cb {R:Rk} [Cl R] {F:List T->Option T}{f:RDn}{g:Ev->Option (List T)}{u:TDA}(hf:GoodN R F f) (h:OkA g u):OkX R (cbS F g) (dCB f u):=λ S Z δ ρ y Q hE e hq=>by
 obtain⟨xs,e1,e2⟩:=Option.bind_eq_some_iff.mp e
 refine h S Z δ ρ xs _ hE e1 λ ds S1 s1 r1=>?_
 exact hf S1 Z xs y ds Q (hE.grow s1).zd r1 e2 λ c S' s r=>hq c S' (s1.trans s) (Cl.cl s1 r)
@[simp] noncomputable def lenS:List T->Option T
 | [.str z]=>if z.length<=sizeLine then some (.int z.length) else none
 | [y]=>(seqT y).map λ ts=>.int ts.length
 | _=>none
theorem vws1 {S:SS}{Z:Addr->Prop}{y:T}{ds:List D}(h:Vws S Z [y] ds):∃ d,ds=[d]/\Vw S Z y d:=by
 obtain⟨c,cs,rfl,h1,h2⟩:=h
 cases h2
 exact⟨c,rfl,h1⟩
theorem vws2 {S:SS}{Z:Addr->Prop}{y z:T}{ds:List D}(h:Vws S Z [y,z] ds):∃ d e,ds=[d,e]/\Vw S Z y d/\Vw S Z z e:=by
 obtain⟨c,cs,rfl,h1,c2,cs2,rfl,h2,h3⟩:=h
 cases h3
 exact⟨c,c2,rfl,h1,h2⟩
theorem good_len:GoodN RkF lenS fLen:=λ S Z ys z ds Q hz hv e hq=>by
 unfold lenS at e
 split at e
 ·obtain⟨d,rfl,h1⟩:=vws1 hv
  split at e
  ·rename_i hl
   cases e
   cases h1.str
   exact⟨hl,hq _ S (.refl S) (Cl.of (λ _=>nofun) sn_int)⟩
  ·cases e
 ·obtain⟨d,rfl,h1⟩:=vws1 hv
  obtain⟨ts,e1,rfl⟩:=Option.map_eq_some_iff.mp e
  obtain⟨es,h2,h3⟩:=h1.seq e1
  refine fLen_seq h2 ?_
  rw[h3.len]
  exact hq _ S (.refl S) (Cl.of (λ _=>nofun) sn_int)
 ·cases e
@[simp] noncomputable def tupleS:List T->Option T
 | [y]=>(seqT y).map .tup
 | _=>none
theorem good_tuple:GoodN RkF tupleS fTuple:=λ S Z ys z ds Q hz hv e hq=>by
 unfold tupleS at e
 split at e
 ·rename_i y
  obtain⟨d,rfl,h1⟩:=vws1 hv
  obtain⟨ts,e1,rfl⟩:=Option.map_eq_some_iff.mp e
  obtain⟨es,h2,h3⟩:=h1.seq e1
  have k:Q (.tup es) S:=hq _ S (.refl S) (Cl.of (λ _=>nofun) (sn_tup h3))
  unfold seqOf at h2
  split at h2
  ·cases h2;exact k
  ·cases h2;exact k
  ·split at h2
   ·rename_i q
    cases h2;exact fTuple_ref q k
   ·cases h2
  ·cases h2
 ·cases e
@[simp] noncomputable def iiS (g:Int->Int->Int):List T->Option T
 | [.int i,.int j]=>some (.int (g i j))
 | _=>none
theorem good_ii {g:Int->Int->Int}:GoodN RkF (iiS g) (fII λ i j=>.int (g i j)):=λ S Z ys z ds Q hz hv e hq=>by
 unfold iiS at e
 split at e
 ·obtain⟨d,d',rfl,h1,h2⟩:=vws2 hv
  cases e;cases h1.int;cases h2.int
  exact hq _ S (.refl S) (Cl.of (λ _=>nofun) sn_int)
 ·cases e
@[simp] noncomputable def minS:List T->Option T:=iiS λ i j=>if j<i then j else i
noncomputable def blsT:List T->Option (List Bool)
 | []=>some []
 | .bl b::ts=>(blsT ts).map (b::·)
 | _::_=>none
theorem blsT_some:∀ {ts:List T}{bs:List Bool},blsT ts=some bs->ts=bs.map T.bl
 | [],bs,h=>by cases h;rfl
 | .bl b::ts,bs,h=>by
  unfold blsT at h
  obtain⟨cs,h1,rfl⟩:=Option.map_eq_some_iff.mp h
  rw[List.map_cons,<- blsT_some h1]
 | .non::ts,bs,h=>by cases h
 | .int _::ts,bs,h=>by cases h
 | .str _::ts,bs,h=>by cases h
 | .tup _::ts,bs,h=>by cases h
 | .lst _::ts,bs,h=>by cases h
theorem blsT_map (bs:List Bool):blsT (bs.map T.bl)=some bs:=by
 induction bs with
 | nil=>rfl
 | cons b bs ih=>rw[List.map_cons];unfold blsT;rw[ih];rfl
@[simp] noncomputable def bsS (g:List Bool->Bool):List T->Option T
 | [.lst ts]=>(blsT ts).map λ bs=>.bl (g bs)
 | _=>none
def fBsV (g:List Bool->Bool):RDn:=λ ds S Q=>match ds with
 | [.tup _]=>False
 | [d]=>∃ bs:List Bool,seqOf d S=some (bs.map D.bl)/\Q (.bl (g bs)) S
 | _=>False
theorem good_bs {g:List Bool->Bool}:GoodN RkF (bsS g) (fBsV g):=λ S Z ys z ds Q hz hv e hq=>by
 unfold bsS at e
 split at e
 ·obtain⟨d,rfl,h1⟩:=vws1 hv
  obtain⟨bs,e1,rfl⟩:=Option.map_eq_some_iff.mp e
  cases blsT_some e1
  obtain⟨es,h2,h3⟩:=h1.seq rfl
  cases h3.bls
  have key:∃ bs:List Bool,seqOf d S=some (bs.map D.bl)/\Q (.bl (g bs)) S:=⟨bs,h2,hq _ S (.refl S) (Cl.of (λ _=>nofun) sn_bl)⟩
  obtain⟨_,q | ⟨a,q,_⟩,_⟩:=h1.lst
  ·subst q;exact key
  ·subst q;exact key
 ·cases e
end L5
namespace L5
open PySem L2 L3
structure FR (S0:SS) (Z0:Addr->Prop) (S:SS) (Z:Addr->Prop) (δ:StD) (ρ:Ev):Prop where
 er:ER S Z δ ρ
 len:δ.length=ρ.length
 sx:Sx S0 S
 z0:∀ a,Z0 a->S0 a≠none
 zz:∀ a,Z0 a->Z a
 zn:∀ a,Z a->Z0 a\/S0 a=none
 fr:∀ (i:Nat) ts p,ρ[i]?=some (some (.own ts))->δ[i]?=some (some (.ref p))->S0 p=none
 dj:∀ (i j:Nat) ts us p,i≠j->ρ[i]?=some (some (.own ts))->ρ[j]?=some (some (.own us))->δ[i]?=some (some (.ref p))->δ[j]?=some (some (.ref p))->False
theorem set_get {α:Type}{l:List α}{i j:Nat}{a b:α}(h:(l.set i a)[j]?=some b):(i=j/\i<l.length/\b=a)\/(i≠j/\l[j]?=some b):=by
 rw[List.getElem?_set] at h
 by_cases e:i=j
 ·subst e
  rw[if_pos rfl] at h
  by_cases hl:i<l.length
  ·rw[if_pos hl] at h;cases h;exact .inl ⟨rfl,hl,rfl⟩
  ·rw[if_neg hl] at h;cases h
 ·rw[if_neg e] at h;exact .inr ⟨e,h⟩
theorem get_set_ne {α:Type}{l:List α}{i j:Nat}{a:α}(h:i≠j):(l.set i a)[j]?=l[j]?:=by rw[List.getElem?_set,if_neg h]
theorem get_set_eq {α:Type}{l:List α}{i:Nat}{a:α}(h:i<l.length):(l.set i a)[i]?=some a:=by rw[List.getElem?_set,if_pos rfl,if_pos h]
section
variable {S0 S S':SS}{Z0 Z:Addr->Prop}{δ:StD}{ρ:Ev}{y:T}{d:D}
theorem FR.grow (h:FR S0 Z0 S Z δ ρ) (s:Sx S S'):FR S0 Z0 S' Z δ ρ:=⟨h.er.grow s,h.len,h.sx.trans s,h.z0,h.zz,h.zn,h.fr,h.dj⟩
theorem FR.setIm (h:FR S0 Z0 S Z δ ρ) (i:Nat) (r:Sn (hid S Z) y d):FR S0 Z0 S Z (δ.set i (some d)) (ρ.set i (some (.im y))):=by
 refine⟨⟨h.er.zd,λ j t e=>?_,λ j ts e=>?_⟩,by simp[h.len],h.sx,h.z0,h.zz,h.zn,λ j ts p e e'=>?_,λ j k ts us p n e1 e2 e3 e4=>?_⟩
 ·rcases set_get e with ⟨rfl,hl,e⟩ | ⟨n,e⟩
  ·cases e;exact⟨d,get_set_eq (by rw[h.len];exact hl),r⟩
  ·rw[get_set_ne n];exact h.er.im j t e
 ·rcases set_get e with ⟨rfl,hl,e⟩ | ⟨n,e⟩
  ·cases e
  ·rw[get_set_ne n];exact h.er.ow j ts e
 ·rcases set_get e with ⟨rfl,hl,e⟩ | ⟨n,e⟩
  ·cases e
  ·rw[get_set_ne n] at e';exact h.fr j ts p e e'
 ·rcases set_get e1 with ⟨rfl,hl,e⟩ | ⟨n1,e1⟩
  ·cases e
  rcases set_get e2 with ⟨rfl,hl,e⟩ | ⟨n2,e2⟩
  ·cases e
  rw[get_set_ne n1] at e3;rw[get_set_ne n2] at e4
  exact h.dj j k ts us p n e1 e2 e3 e4
theorem FR.setOwn {ts:C}{ds:O}{p:Addr}(h:FR S0 Z0 S Z δ ρ) (s:Sx S S') (i:Nat) (hp:S p=none) (hd:S' p=some ds) (r:RepC (hid S' λ a=>Z a\/a=p) ts ds):
  FR S0 Z0 S' (λ a=>Z a\/a=p) (δ.set i (some (.ref p))) (ρ.set i (some (.own ts))):=by
 have np:∀ (j:Nat) us q,ρ[j]?=some (some (.own us))->δ[j]?=some (some (.ref q))->q≠p:=λ j us q e e' z=>by
  subst z
  obtain⟨p',ds',h1,h2,_⟩:=h.er.ow j us e
  rw[e'] at h1;cases h1;rw[hp] at h2;cases h2
 refine⟨⟨λ a z=>?_,λ j t e=>?_,λ j us e=>?_⟩,by simp[h.len],h.sx.trans s,h.z0,λ a z=>.inl (h.zz a z),λ a z=>z.elim (h.zn a) (λ q=>.inr (by subst q;exact h.sx.none hp)),λ j us q e e'=>?_,λ j k us vs q n e1 e2 e3 e4=>?_⟩
 ·rcases z with z | rfl
  ·exact λ q=>h.er.zd a z (s.none q)
  ·rw[hd];nofun
 ·rcases set_get e with ⟨rfl,hl,e⟩ | ⟨n,e⟩
  ·cases e
  ·rw[get_set_ne n]
   obtain⟨d,h1,h2⟩:=h.er.im j t e
   exact⟨d,h1,Sn.sx (hid_new s hp) t h2⟩
 ·rcases set_get e with ⟨rfl,hl,e⟩ | ⟨n,e⟩
  ·cases e;exact⟨p,ds,get_set_eq (by rw[h.len];exact hl),hd,r,.inr rfl⟩
  ·rw[get_set_ne n]
   obtain⟨q,es,h1,h2,h3,h4⟩:=h.er.ow j us e
   exact⟨q,es,h1,s _ _ h2,RepC.sx (hid_new s hp) h3,.inl h4⟩
 ·rcases set_get e with ⟨rfl,hl,e⟩ | ⟨n,e⟩
  ·rw[get_set_eq (by rw[h.len];exact hl)] at e';cases e';exact h.sx.none hp
  ·rw[get_set_ne n] at e';exact h.fr j us q e e'
 ·rcases set_get e1 with ⟨rfl,hl,e⟩ | ⟨n1,e1⟩
  ·rcases set_get e2 with ⟨rfl,_,_⟩ | ⟨n2,e2⟩
   ·exact n rfl
   ·rw[get_set_eq (by rw[h.len];exact hl)] at e3;cases e3
    rw[get_set_ne n2] at e4
    exact np k vs p e2 e4 rfl
  ·rcases set_get e2 with ⟨rfl,hl,_⟩ | ⟨n2,e2⟩
   ·rw[get_set_eq (by rw[h.len];exact hl)] at e4;cases e4
    rw[get_set_ne n1] at e3
    exact np j us p e1 e3 rfl
   ·rw[get_set_ne n1] at e3;rw[get_set_ne n2] at e4
    exact h.dj j k us vs q n e1 e2 e3 e4
theorem FR.forget (h:FR S0 Z0 S Z δ ρ) (i:Nat):FR S0 Z0 S Z δ (ρ.set i none):=by
 refine⟨⟨h.er.zd,λ j t e=>?_,λ j ts e=>?_⟩,by simp[h.len],h.sx,h.z0,h.zz,h.zn,λ j ts p e e'=>?_,λ j k ts us p n e1 e2 e3 e4=>?_⟩
 ·rcases set_get e with ⟨rfl,hl,e⟩ | ⟨n,e⟩
  ·cases e
  ·exact h.er.im j t e
 ·rcases set_get e with ⟨rfl,hl,e⟩ | ⟨n,e⟩
  ·cases e
  ·exact h.er.ow j ts e
 ·rcases set_get e with ⟨rfl,hl,e⟩ | ⟨n,e⟩
  ·cases e
  ·exact h.fr j ts p e e'
 ·rcases set_get e1 with ⟨rfl,hl,e⟩ | ⟨n1,e1⟩
  ·cases e
  rcases set_get e2 with ⟨rfl,hl,e⟩ | ⟨n2,e2⟩
  ·cases e
  exact h.dj j k ts us p n e1 e2 e3 e4
@[simp] noncomputable def frg (is:List Nat) (ρ:Ev):Ev:=is.foldl (fun ρ i=>ρ.set i none) ρ
theorem FR.frg:∀ (is:List Nat) {ρ:Ev},FR S0 Z0 S Z δ ρ->FR S0 Z0 S Z δ (frg is ρ)
 | [],_,h=>h
 | i::is,_,h=>FR.frg is (h.forget i)
theorem FR.freeze {ts:List T}{p:Addr}(h:FR S0 Z0 S Z δ ρ) (i:Nat) (e:ρ[i]?=some (some (.own (.lst ts)))) (ed:δ[i]?=some (some (.ref p))):
  FR S0 Z0 S (λ a=>Z a/\a≠p) δ (ρ.set i (some (.im (.lst ts))))/\Sn (hid S λ a=>Z a/\a≠p) (.lst ts) (.ref p):=by
 obtain⟨p',o,h1,h2,h3,h4⟩:=h.er.ow i _ e
 rw[ed] at h1;cases h1
 obtain⟨ds,rfl⟩:∃ ds,o=.lst ds:=by
  cases o with
  | lst ds=>exact⟨ds,rfl⟩
  | dct _=>exact h3.elim
 replace h3:Sns (hid S Z) ts ds:=h3
 have hS:Sn (hid S λ a=>Z a/\a≠p) (.lst ts) (.ref p):=by
  simp only[Sn]
  exact⟨ds,.inr ⟨p,rfl,by rw[hid_of (λ z=>z.2 rfl)];exact h2⟩,Sns.sx (hid_le λ a z=>z.1) ts h3⟩
 refine⟨?_,hS⟩
 refine⟨⟨λ a z=>h.er.zd a z.1,λ j t e'=>?_,λ j us e'=>?_⟩,by simp[h.len],h.sx,h.z0,λ a z=>⟨h.zz a z,λ q=>?_⟩,λ a z=>h.zn a z.1,λ j us q e' ed'=>?_,λ j k us vs q n e1 e2 e3 e4=>?_⟩
 ·rcases set_get e' with ⟨rfl,hl,e'⟩ | ⟨n,e'⟩
  ·cases e';exact⟨_,ed,hS⟩
  ·obtain⟨d,g1,g2⟩:=h.er.im j t e'
   exact⟨d,g1,Sn.sx (hid_le λ a z=>z.1) t g2⟩
 ·rcases set_get e' with ⟨rfl,hl,e'⟩ | ⟨n,e'⟩
  ·cases e'
  ·obtain⟨q,es,g1,g2,g3,g4⟩:=h.er.ow j us e'
   exact⟨q,es,g1,g2,RepC.sx (hid_le λ a z=>z.1) g3,g4,λ z=>by subst z;exact h.dj i j _ us q n e e' ed g1⟩
 ·subst q;exact h.z0 a z (h.fr i _ a e ed)
 ·rcases set_get e' with ⟨rfl,hl,e'⟩ | ⟨n,e'⟩
  ·cases e'
  ·exact h.fr j us q e' ed'
 ·rcases set_get e1 with ⟨rfl,hl,e⟩ | ⟨n1,e1⟩
  ·cases e
  rcases set_get e2 with ⟨rfl,hl,e⟩ | ⟨n2,e2⟩
  ·cases e
  exact h.dj j k us vs q n e1 e2 e3 e4
theorem FR.mut {ts us:C}{es:O}{p:Addr}(h:FR S0 Z0 S Z δ ρ) (i:Nat) (e:ρ[i]?=some (some (.own ts))) (ed:δ[i]?=some (some (.ref p))) (r:RepC (hid S Z) us es):
  FR S0 Z0 (ups S p es) Z δ (ρ.set i (some (.own us))):=by
 obtain⟨p',ds,h1,h2,h3,h4⟩:=h.er.ow i ts e
 rw[ed] at h1;cases h1
 have hh:hid (ups S p es) Z=hid S Z:=hid_ups h4
 have hpn:=h.fr i ts p e ed
 refine⟨⟨λ a z=>?_,λ j t e'=>?_,λ j vs e'=>?_⟩,by simp[h.len],λ b o q=>?_,h.z0,h.zz,h.zn,λ j vs q e' ed'=>?_,λ j k vs ws q n e1 e2 e3 e4=>?_⟩
 ·by_cases hp:a=p
  ·subst hp;rw[ups_same];nofun
  ·rw[ups_ne hp];exact h.er.zd a z
 ·rw[hh]
  rcases set_get e' with ⟨rfl,hl,e'⟩ | ⟨n,e'⟩
  ·cases e'
  ·exact h.er.im j t e'
 ·rw[hh]
  rcases set_get e' with ⟨rfl,hl,e'⟩ | ⟨n,e'⟩
  ·cases e';exact⟨p,es,ed,ups_same,r,h4⟩
  ·obtain⟨q,es',g1,g2,g3,g4⟩:=h.er.ow j vs e'
   refine⟨q,es',g1,?_,g3,g4⟩
   rw[ups_ne (λ z=>by subst z;exact h.dj i j ts vs q n e e' ed g1)];exact g2
 ·rw[ups_ne (λ z=>by subst z;rw[hpn] at q;cases q)];exact h.sx b o q
 ·rcases set_get e' with ⟨rfl,hl,_⟩ | ⟨n,e'⟩
  ·rw[ed] at ed';cases ed';exact hpn
  ·exact h.fr j vs q e' ed'
 ·rcases set_get e1 with ⟨rfl,hl,_⟩ | ⟨n1,e1⟩
  ·rcases set_get e2 with ⟨rfl,hl,_⟩ | ⟨n2,e2⟩
   ·exact n rfl
   ·exact h.dj _ k ts ws q n e e2 e3 e4
  ·rcases set_get e2 with ⟨rfl,hl,_⟩ | ⟨n2,e2⟩
   ·exact h.dj j _ vs ts q n e1 e e3 e4
   ·exact h.dj j k vs ws q n e1 e2 e3 e4
noncomputable def reb (S0 S:SS) (Z:Addr->Prop):SS:=open Classical in λ a=>if S0 a=none/\Z a then none else S a
theorem reb_of {a:Addr}(h:¬ (S0 a=none/\Z a)):reb S0 S Z a=S a:=if_neg h
theorem reb_no {a:Addr}(h:S0 a=none/\Z a):reb S0 S Z a=none:=if_pos h
theorem FR.rebase (h:FR S0 Z0 S Z δ ρ):∃ S1,Sx S0 S1/\FR S1 Z0 S Z δ ρ/\Sx (hid S Z) S1:=by
 refine⟨reb S0 S Z,λ b o q=>?_,⟨h.er,h.len,λ b o q=>?_,λ a z=>?_,h.zz,λ a z=>?_,λ i ts p e ed=>?_,h.dj⟩,λ b o q=>?_⟩
 ·rw[reb_of (λ z=>by rw[z.1] at q;cases q)];exact h.sx _ _ q
 ·by_cases w:S0 b=none/\Z b
  ·rw[reb_no w] at q;cases q
  ·rw[reb_of w] at q;exact q
 ·rw[reb_of (λ q=>h.z0 a z q.1)]
  exact h.er.zd a (h.zz a z)
 ·rcases h.zn a z with w | w
  ·exact .inl w
  ·exact .inr (reb_no ⟨w,z⟩)
 ·obtain⟨p',ds,h1,h2,h3,h4⟩:=h.er.ow i ts e
  rw[ed] at h1;cases h1
  exact reb_no ⟨h.fr i ts p e ed,h4⟩
 ·obtain⟨q1,q2⟩:=hid_some q
  rw[reb_of (λ z=>q1 z.2)];exact q2
theorem FR.back {S1:SS}(h:FR S1 Z0 S Z δ ρ) (s:Sx S0 S1) (z0:∀ a,Z0 a->S0 a≠none):FR S0 Z0 S Z δ ρ:=⟨h.er,h.len,s.trans h.sx,z0,h.zz,λ a z=>(h.zn a z).imp id s.none,λ i ts p e ed=>s.none (h.fr i ts p e ed),h.dj⟩
theorem FR.see {S1:SS}{Z1:Addr->Prop}(h:FR S0 Z0 S Z δ ρ) (b:Sx (hid S1 Z1) S0) (zz:∀ a,Z0 a->Z1 a):Sx (hid S1 Z1) (hid S Z):=λ a o q=>by
 have q0:=b _ _ q
 obtain⟨q1,q2⟩:=hid_some q
 rw[hid_of]
 ·exact h.sx _ _ q0
 ·intro z
  rcases h.zn a z with w | w
  ·exact q1 (zz a w)
  ·rw[w] at q0;cases q0
end
inductive Out where
 | nx (ρ:Ev) | rt (t:T) | bk (ρ:Ev) | ct (ρ:Ev)
abbrev Sm:=Ev->Option Out
def Post (R:Rk) (S0:SS) (Z0:Addr->Prop) (o:Out) (E:EndsD):Prop:=match o with
 | .nx ρ=>∀ S Z δ,FR S0 Z0 S Z δ ρ->E.nx δ S
 | .bk ρ=>∀ S Z δ,FR S0 Z0 S Z δ ρ->E.bk δ S
 | .ct ρ=>∀ S Z δ,FR S0 Z0 S Z δ ρ->E.ct δ S
 | .rt y=>∀ d S,Sx S0 S->R S0 S Z0 y d->E.rt d S
def OkS (R:Rk) (g:Sm) (t:TDS):Prop:=∀ S0 Z0 S Z δ ρ o E,FR S0 Z0 S Z δ ρ->g ρ=some o->Post R S0 Z0 o E->t E δ S
class Lo (R:Rk):Prop extends Cl R where
 lo:∀ {S0 S S':SS}{Z0 Z:Addr->Prop}{y:T}{d:D},Sx S0 S->(∀ a,Z0 a->Z a)->R S S' Z y d->R S0 S' Z0 y d
instance:Lo RkV:=⟨λ _ z h=>Sn.sx (hid_le z) _ h⟩
instance:Lo RkF:=⟨λ s z h=>⟨Sn.sx (hid_le z) _ h.1,λ ts e=>by
 obtain⟨p,ds,h1,h2,h3,h4⟩:=h.2 ts e
 exact⟨p,ds,h1,s.none h2,h3,Sns.sx (hid_le λ a q=>q.imp (z a) id) ts h4⟩⟩⟩
@[simp] noncomputable def seqS (g h:Sm):Sm:=fun ρ=>(g ρ).bind λ o=>match o with
 | .nx ρ'=>h ρ'
 | o=>some o
@[simp] noncomputable def skipS:Sm:=fun ρ=>some (.nx ρ)
@[simp] noncomputable def brkS:Sm:=fun ρ=>some (.bk ρ)
@[simp] noncomputable def asgS (i:Nat) (f:Ev->Option T):Sm:=fun ρ=>(f ρ).map λ y=>.nx (ρ.set i (some (.im y)))
@[simp] noncomputable def asgO (i:Nat) (f:Ev->Option T):Sm:=fun ρ=>(f ρ).bind λ y=>match y with
 | .lst ts=>some (.nx (ρ.set i (some (.own (.lst ts)))))
 | y=>some (.nx (ρ.set i (some (.im y))))
@[simp] noncomputable def drpS (f:Ev->Option T):Sm:=fun ρ=>(f ρ).map λ _=>.nx ρ
@[simp] noncomputable def retS (f:Ev->Option T):Sm:=fun ρ=>(f ρ).map .rt
@[simp] noncomputable def retO (i:Nat):Sm:=fun ρ=>match ρ[i]? with
 | some (some (.own (.lst ts)))=>some (.rt (.lst ts))
 | _=>none
@[simp] noncomputable def ifS (c:Ev->Option Bool) (g h:Sm):Sm:=fun ρ=>(c ρ).bind λ b=>if b=true then g ρ else h ρ
@[simp] noncomputable def fzE (i:Nat) (ρ:Ev):Ev:=match ρ[i]? with
 | some (some (.own (.lst ts)))=>ρ.set i (some (.im (.lst ts)))
 | _=>ρ
@[simp] noncomputable def fzS (i:Nat) (g:Sm):Sm:=fun ρ=>g (fzE i ρ)
section
variable {R:Rk}{g h:Sm}{t u:TDS}{f:Ev->Option T}{te:TDE}
theorem oks_seq (hg:OkS R g t) (hh:OkS R h u):OkS R (seqS g h) (dSeq t u):=λ S0 Z0 S Z δ ρ o E F e P=>by
 obtain⟨o1,e1,e2⟩:=Option.bind_eq_some_iff.mp e
 refine hg S0 Z0 S Z δ ρ o1 { E with nx:=u E } F e1 ?_
 cases o1 with
 | nx ρ1=>exact λ S1 Z1 δ1 F1=>hh S0 Z0 S1 Z1 δ1 ρ1 o E F1 e2 P
 | rt y=>cases e2;exact P
 | bk y=>cases e2;exact P
 | ct y=>cases e2;exact P
theorem oks_skip:OkS R skipS dNext:=λ S0 Z0 S Z δ ρ o E F e P=>by cases e;exact P S Z δ F
theorem oks_brk:OkS R brkS dBreak:=λ S0 Z0 S Z δ ρ o E F e P=>by cases e;exact P S Z δ F
theorem oks_asg (i:Nat) (hf:OkE f te):OkS R (asgS i f) (dAsg te (hName i)):=λ S0 Z0 S Z δ ρ o E F e P=>by
 obtain⟨y,e1,rfl⟩:=Option.map_eq_some_iff.mp e
 exact hf S Z δ ρ y _ F.er e1 λ d S1 s1 r1=>P S1 Z _ ((F.grow s1).setIm i r1)
theorem oks_asgO (i:Nat) (hf:OkF f te):OkS R (asgO i f) (dAsg te (hName i)):=λ S0 Z0 S Z δ ρ o E F e P=>by
 obtain⟨y,e1,e2⟩:=Option.bind_eq_some_iff.mp e
 refine hf S Z δ ρ y _ F.er e1 λ d S1 s1 r1=>?_
 cases y with
 | lst ts=>
  cases e2
  obtain⟨p,ds,rfl,h1,h2,h3⟩:=r1.2 ts rfl
  exact P S1 _ _ (F.setOwn (ts:=.lst ts) (ds:=.lst ds) s1 i h1 h2 h3)
 | non=>cases e2;exact P S1 Z _ ((F.grow s1).setIm i r1.1)
 | bl _=>cases e2;exact P S1 Z _ ((F.grow s1).setIm i r1.1)
 | int _=>cases e2;exact P S1 Z _ ((F.grow s1).setIm i r1.1)
 | str _=>cases e2;exact P S1 Z _ ((F.grow s1).setIm i r1.1)
 | tup _=>cases e2;exact P S1 Z _ ((F.grow s1).setIm i r1.1)
 | dic=>cases e2;exact P S1 Z _ ((F.grow s1).setIm i r1.1)
 | err _ _ _=>cases e2;exact P S1 Z _ ((F.grow s1).setIm i r1.1)
theorem oks_drp (hf:OkR f te):OkS R (drpS f) (dDrop te):=λ S0 Z0 S Z δ ρ o E F e P=>by
 obtain⟨y,e1,rfl⟩:=Option.map_eq_some_iff.mp e
 exact hf S Z δ ρ y _ F.er e1 λ d S1 s1 r1=>P S1 Z _ (F.grow s1)
theorem oks_ret [Lo R] (hf:OkX R f te):OkS R (retS f) (dRet te):=λ S0 Z0 S Z δ ρ o E F e P=>by
 obtain⟨y,e1,rfl⟩:=Option.map_eq_some_iff.mp e
 exact hf S Z δ ρ y _ F.er e1 λ d S1 s1 r1=>P d S1 (F.sx.trans s1) (Lo.lo F.sx F.zz r1)
theorem oks_retO (i:Nat):OkS RkF (retO i) (dRet (dVar i)):=λ S0 Z0 S Z δ ρ o E F e P=>by
 unfold retO at e
 split at e
 ·rename_i ts h
  cases e
  obtain⟨p,ob,h1,h2,h3,h4⟩:=F.er.ow i _ h
  obtain⟨ds,rfl⟩:∃ ds,ob=.lst ds:=by
   cases ob with
   | lst ds=>exact⟨ds,rfl⟩
   | dct _=>exact h3.elim
  replace h3:Sns (hid S Z) ts ds:=h3
  have hn:=F.fr i _ p h h1
  have nz:¬ Z0 p:=λ z=>F.z0 p z hn
  show dVar i δ S E.rt
  unfold dVar;rw[h1]
  refine P _ S F.sx ⟨?_,λ us e=>?_⟩
  ·simp only[Sn]
   exact⟨ds,.inr ⟨p,rfl,by rw[hid_of nz];exact h2⟩,Sns.sx (hid_le F.zz) ts h3⟩
  ·cases e
   exact⟨p,ds,rfl,hn,h2,Sns.sx (hid_le λ a q=>q.elim (F.zz a) λ q=>q▸h4) ts h3⟩
 ·cases e
theorem oks_if {c:Ev->Option Bool}{tc:TDT}(hc:OkT c tc) (hg:OkS R g t) (hh:OkS R h u):OkS R (ifS c g h) (dIfS tc t u):=λ S0 Z0 S Z δ ρ o E F e P=>by
 obtain⟨b,e1,e2⟩:=Option.bind_eq_some_iff.mp e
 refine hc S Z δ ρ b _ F.er e1 λ S1 s1=>?_
 split at e2
 ·rename_i hb;rw[if_pos hb];exact hg S0 Z0 S1 Z δ ρ o E (F.grow s1) e2 P
 ·rename_i hb;rw[if_neg hb];exact hh S0 Z0 S1 Z δ ρ o E (F.grow s1) e2 P
theorem FR.fz {S0 S:SS}{Z0 Z:Addr->Prop}{δ:StD}{ρ:Ev}(F:FR S0 Z0 S Z δ ρ) (i:Nat):∃ Z',FR S0 Z0 S Z' δ (fzE i ρ):=by
 unfold fzE
 split
 ·rename_i ts h
  obtain⟨p,ds,h1,_⟩:=F.er.ow i _ h
  exact⟨_,(F.freeze i h h1).1⟩
 ·exact⟨Z,F⟩
theorem oks_fz (i:Nat) (hg:OkS R g t):OkS R (fzS i g) t:=λ S0 Z0 S Z δ ρ o E F e P=>by
 obtain⟨Z',F'⟩:=F.fz i
 exact hg S0 Z0 S Z' δ _ o E F' e P
def OkG (g:T->Ev->Option Ev) (t:TDG):Prop:=∀ S0 Z0 S Z δ ρ ρ' y d Q,FR S0 Z0 S Z δ ρ->Sn (hid S Z) y d->g y ρ=some ρ'->(∀ δ',FR S0 Z0 S Z δ' ρ'->Q δ' S)->t d δ S Q
def OkGs (g:List T->Ev->Option Ev) (t:TDGs):Prop:=∀ S0 Z0 S Z δ ρ ρ' ys ds Q,FR S0 Z0 S Z δ ρ->Sns (hid S Z) ys ds->g ys ρ=some ρ'->(∀ δ',FR S0 Z0 S Z δ' ρ'->Q δ' S)->t ds δ S Q
@[simp] noncomputable def nmG (i:Nat):T->Ev->Option Ev:=λ y ρ=>some (ρ.set i (some (.im y)))
@[simp] noncomputable def nilG:List T->Ev->Option Ev
 | [],ρ=>some ρ
 | _::_,_=>none
@[simp] noncomputable def consG (g:T->Ev->Option Ev) (h:List T->Ev->Option Ev):List T->Ev->Option Ev
 | y::ys,ρ=>(g y ρ).bind fun ρ'=>h ys ρ'
 | [],_=>none
@[simp] noncomputable def tpG (n:Nat) (g:List T->Ev->Option Ev):T->Ev->Option Ev
 | .tup ys,ρ=>if ys.length=n then g ys ρ else none
 | _,_=>none
theorem okg_nm (i:Nat):OkG (nmG i) (hName i):=λ S0 Z0 S Z δ ρ ρ' y d Q F r e hq=>by cases e;exact hq _ (F.setIm i r)
theorem okgs_nil:OkGs nilG hNil:=λ S0 Z0 S Z δ ρ ρ' ys ds Q F r e hq=>by
 cases ys with
 | nil=>simp only[Sns] at r;subst r;cases e;exact⟨rfl,hq _ F⟩
 | cons _ _=>cases e
theorem okgs_cons {g:T->Ev->Option Ev}{h:List T->Ev->Option Ev}{t:TDG}{u:TDGs}(hg:OkG g t) (hh:OkGs h u):OkGs (consG g h) (hCons t u):=λ S0 Z0 S Z δ ρ ρ' ys ds Q F r e hq=>by
 cases ys with
 | nil=>cases e
 | cons y ys=>
  simp only[Sns] at r
  obtain⟨c,cs,rfl,r1,r2⟩:=r
  obtain⟨ρ1,e1,e2⟩:=Option.bind_eq_some_iff.mp e
  exact hg S0 Z0 S Z δ ρ ρ1 y c _ F r1 e1 fun δ1 F1=>hh S0 Z0 S Z δ1 ρ1 ρ' ys cs Q F1 r2 e2 hq
theorem okg_tp {n:Nat}{g:List T->Ev->Option Ev}{t:TDGs}(hg:OkGs g t):OkG (tpG n g) (hTup n t):=λ S0 Z0 S Z δ ρ ρ' y d Q F r e hq=>by
 cases y with
 | tup ys=>
  simp only[Sn] at r
  obtain⟨ds,rfl,r⟩:=r
  simp only[tpG] at e
  split at e
  ·rename_i hl
   exact⟨by rw[r.len];exact hl,hg S0 Z0 S Z δ ρ ρ' ys ds Q F r e hq⟩
  ·cases e
 | non=>cases e
 | bl _=>cases e
 | int _=>cases e
 | str _=>cases e
 | lst _=>cases e
 | dic=>cases e
 | err _ _ _=>cases e
@[simp] noncomputable def tasS (f:Ev->Option T) (g:T->Ev->Option Ev):Sm:=fun ρ=>(f ρ).bind λ y=>(g y ρ).map .nx
theorem oks_tas {g:T->Ev->Option Ev}{tg:TDG}(hf:OkE f te) (hg:OkG g tg):OkS R (tasS f g) (dAsg te tg):=λ S0 Z0 S Z δ ρ o E F e P=>by
 obtain⟨y,e1,e2⟩:=Option.bind_eq_some_iff.mp e
 obtain⟨ρ',e3,rfl⟩:=Option.map_eq_some_iff.mp e2
 exact hf S Z δ ρ y _ F.er e1 λ d S1 s1 r1=>hg S0 Z0 S1 Z δ ρ ρ' y d _ (F.grow s1) r1 e3 fun δ' F'=>P S1 Z δ' F'
def OkI (free:Bool) (f:Ev->Option (List T)) (ti:TDI):Prop:=∀ S Z δ ρ ts Q,ER S Z δ ρ->f ρ=some ts->(∀ I S',Sx S S'->Sns (hid S' Z) ts I.items->(∀ S'',Sx (if free=true then hid S' Z else S') S''->I.keep S'')->Q I S')->ti δ S Q
@[simp] noncomputable def itS (f:Ev->Option T):Ev->Option (List T):=fun ρ=>(f ρ).bind seqT
theorem oki_seq {f:Ev->Option T}{te:TDE}(hf:OkE f te):OkI true (itS f) (jSeq te):=λ S Z δ ρ ts Q hE e hq=>by
 obtain⟨y,e1,e2⟩:=Option.bind_eq_some_iff.mp e
 refine hf S Z δ ρ y _ hE e1 λ d S1 s1 r1=>?_
 cases y with
 | tup us=>
  cases e2
  obtain⟨ds,rfl,h2⟩:=Vw.tup (.inl r1)
  exact hq _ S1 s1 h2 λ _ _=>trivial
 | lst us=>
  cases e2
  have r2:=r1
  unfold RkV at r2
  simp only[Sn] at r2
  obtain⟨ds,⟨rfl,_⟩ | ⟨a,rfl,h1⟩,h2⟩:=r2
  ·exact hq _ S1 s1 h2 λ _ _=>trivial
  ·dsimp only;rw[(hid_some h1).2]
   exact hq ⟨ds,_⟩ S1 s1 h2 λ S'' s=>s _ _ h1
 | non=>cases e2
 | bl _=>cases e2
 | int _=>cases e2
 | str _=>cases e2
 | dic=>cases e2
 | err _ _ _=>cases e2
noncomputable def rangeT (lo:Int) (n:Nat):List T:=(List.range n).map λ(k:Nat)=>T.int (lo+(k:Int))
theorem sns_range {S:SS}(lo:Int) (n:Nat):Sns S (rangeT lo n) (rangeD lo n):=by
 unfold rangeT rangeD
 induction List.range n with
 | nil=>exact .nil
 | cons k l ih=>exact .cons sn_int ih
noncomputable def inR (j:Int):Bool:=decide (-100000000<=j)&&decide (j<=100000000)
theorem inR_iff {j:Int}:inR j=true↔-100000000<=j/\j<=100000000:=by simp[inR]
theorem inR_62 {j:Int}(h:inR j=true):-(2 ^ 62)<=j/\j<2 ^ 62:=by have:=inR_iff.mp h;omega
noncomputable def rng1:List T->Option (List T)
 | [.int j]=>if inR j=true then some (rangeT 0 j.toNat) else none
 | _=>none
noncomputable def rng2:List T->Option (List T)
 | [.int i,.int j]=>if inR i=true/\inR j=true then some (rangeT i (j-i).toNat) else none
 | _=>none
@[simp] noncomputable def itA (F:List T->Option (List T)) (g:Ev->Option (List T)):Ev->Option (List T):=fun ρ=>(g ρ).bind F
theorem oki_rng1 {b:Bool}{g:Ev->Option (List T)}{tA:TDA}(h:OkA g tA):OkI b (itA rng1 g) (jRng1 tA):=λ S Z δ ρ ts Q hE e hq=>by
 obtain⟨ys,e1,e2⟩:=Option.bind_eq_some_iff.mp e
 refine h S Z δ ρ ys _ hE e1 λ ds S1 s1 r1=>?_
 unfold rng1 at e2
 split at e2
 ·split at e2
  ·rename_i hc
   cases e2
   obtain⟨d,rfl,h1⟩:=vws1 r1
   cases h1.int
   exact⟨inR_62 hc,hq _ S1 s1 (sns_range _ _) λ _ _=>trivial⟩
  ·cases e2
 ·cases e2
theorem oki_rng2 {b:Bool}{g:Ev->Option (List T)}{tA:TDA}(h:OkA g tA):OkI b (itA rng2 g) (jRng2 tA):=λ S Z δ ρ ts Q hE e hq=>by
 obtain⟨ys,e1,e2⟩:=Option.bind_eq_some_iff.mp e
 refine h S Z δ ρ ys _ hE e1 λ ds S1 s1 r1=>?_
 unfold rng2 at e2
 split at e2
 ·split at e2
  ·rename_i hc
   cases e2
   obtain⟨d,d',rfl,h1,h2⟩:=vws2 r1
   cases h1.int;cases h2.int
   exact⟨⟨(inR_62 hc.1).1,(inR_62 hc.1).2,inR_62 hc.2⟩,hq _ S1 s1 (sns_range _ _) λ _ _=>trivial⟩
  ·cases e2
 ·cases e2
noncomputable def loopS (is:List Nat) (g:T->Ev->Option Ev) (b:Sm):List T->Ev->Option Out
 | [],ρ=>some (.nx (frg is ρ))
 | y::ys,ρ=>(g y (frg is ρ)).bind fun ρ1=>(b ρ1).bind λ o=>match o with
  | .nx ρ2=>loopS is g b ys ρ2
  | .ct ρ2=>loopS is g b ys ρ2
  | .bk ρ2=>some (.nx (frg is ρ2))
  | .rt t=>some (.rt t)
@[simp] noncomputable def forS (is:List Nat) (f:Ev->Option (List T)) (g:T->Ev->Option Ev) (b:Sm):Sm:=fun ρ=>(f ρ).bind λ ts=>loopS is g b ts ρ
theorem oks_for {is:List Nat}{fi:Ev->Option (List T)}{ti:TDI}{g:T->Ev->Option Ev}{tg:TDG}{b:Sm}{tb:TDS} [Lo R] (hi:OkI true fi ti) (hg:OkG g tg) (hb:OkS R b tb):OkS R (forS is fi g b) (dFor ti tg tb):=λ S0 Z0 S Z δ ρ o E F e P=>by
 obtain⟨ts,e1,e2⟩:=Option.bind_eq_some_iff.mp e
 refine hi S Z δ ρ ts _ F.er e1 λ I S1 s1 r1 hk=>?_
 rw[if_pos rfl] at hk
 obtain⟨SB,b1,FB,b2⟩:=(F.grow s1).rebase
 have lo:∀ S' d y,R SB S' Z0 y d->R S0 S' Z0 y d:=λ S' d y r=>Lo.lo b1 (λ _ z=>z) r
 have zz:=F.zz
 refine⟨λ i δ' S'=>∃ Z' ρ',FR SB Z0 S' Z' δ' ρ'/\loopS is g b (ts.drop i) ρ'=some o,⟨Z,ρ,FB,e2⟩,λ i δ' S' ⟨Z',ρ',F',_⟩=>hk S' (b2.trans F'.sx),λ i d δ' S' hd ⟨Z',ρ',F',e'⟩=>?_,fun δ' S' ⟨Z',ρ',F',e'⟩=>?_⟩
 ·obtain⟨y,hy,r2⟩:=r1.getD' hd
  have hlt:=(List.getElem?_eq_some_iff.mp hy).1
  have hdt:ts.drop i=y::ts.drop (i+1):=by
   rw[List.drop_eq_getElem_cons hlt,(List.getElem?_eq_some_iff.mp hy).2]
  rw[hdt] at e'
  unfold loopS at e'
  obtain⟨ρ1,g1,e'⟩:=Option.bind_eq_some_iff.mp e'
  obtain⟨o1,g2,e'⟩:=Option.bind_eq_some_iff.mp e'
  refine hg SB Z0 S' Z' δ' _ ρ1 y d _ (F'.frg is) (Sn.sx (F'.see b2 zz) y r2) g1 fun δ2 F2=>?_
  refine hb SB Z0 S' Z' δ2 ρ1 o1 _ F2 g2 ?_
  cases o1 with
  | nx ρ2=>exact λ S3 Z3 δ3 F3=>⟨Z3,ρ2,F3,e'⟩
  | ct ρ2=>exact λ S3 Z3 δ3 F3=>⟨Z3,ρ2,F3,e'⟩
  | bk ρ2=>cases e';exact λ S3 Z3 δ3 F3=>P S3 Z3 δ3 ((F3.frg is).back b1 F.z0)
  | rt y=>cases e';exact λ d S3 s3 r3=>P d S3 (b1.trans s3) (lo _ _ _ r3)
 ·rw[show I.items.length=ts.length from r1.len,List.drop_length] at e'
  unfold loopS at e'
  cases e'
  exact P S' Z' δ' ((F'.frg is).back b1 F.z0)
end
end L5
namespace L5
open PySem L2 L3
@[simp] noncomputable def appS (i:Nat) (f:Ev->Option T):Sm:=fun ρ=>match ρ[i]? with
 | some (some (.own (.lst ts)))=>(f ρ).bind λ y=>if ts.length<sizeLine then some (.nx (ρ.set i (some (.own (.lst (ts++[y])))))) else none
 | _=>none
section
variable {R:Rk}{f:Ev->Option T}{te:TDE}
theorem oks_app (i:Nat) (hf:OkE f te):OkS R (appS i f) (dDrop (dAppend (dVar i) te)):=λ S0 Z0 S Z δ ρ o E F e P=>by
 unfold appS at e
 split at e
 ·rename_i ts h
  obtain⟨y,e1,e2⟩:=Option.bind_eq_some_iff.mp e
  split at e2
  ·rename_i hl
   cases e2
   obtain⟨p,ob,h1,h2,h3,h4⟩:=F.er.ow i _ h
   obtain⟨ds,rfl⟩:∃ ds,ob=.lst ds:=by
    cases ob with
    | lst ds=>exact⟨ds,rfl⟩
    | dct _=>exact h3.elim
   replace h3:Sns (hid S Z) ts ds:=h3
   show dAppend (dVar i) te δ S _
   unfold dAppend dVar
   rw[h1]
   refine⟨⟨ds,h2⟩,hf S Z δ ρ y _ F.er e1 λ d S1 s1 r1=>?_⟩
   dsimp only
   rw[s1 _ _ h2]
   have F1:=F.grow s1
   refine⟨by rw[h3.len];exact hl,P _ Z δ (F1.mut (us:=.lst (ts++[y])) (es:=.lst (ds++[d])) i h h1 ((Sns.sx (hid_mono s1) ts h3).append (.cons r1 .nil)))⟩
  ·cases e2
 ·cases e
end
def dLW (pick:List (Option Nat)) (ti:TDI) (g:TDG) (tc:TDT) (te:TDE):TDE:=fun δ S Q=>ti δ S λ I S1=>I.items.length<=sizeLine/\(∀ S,Sx S1 S->I.keep S)/\∀ p,S1 p=none->∃ W:Nat->SS->List D->Prop,W 0 S1 []/\
 (∀ i S S' acc,(∀ b o,b≠p->S b=some o->S' b=some o)->W i S acc->W i S' acc)/\
 (∀ i d S acc,I.items[i]?=some d->Sx S1 S->S p=some (.lst acc)->W i S acc->g d (pickD pick δ) S fun δ2 S2=>StLe (pickD pick δ) δ2/\tc δ2 S2 λ b S3=>if b=true then te δ2 S3 λ y S4=>Sx S S4/\W (i+1) S4 (acc++[y]) else Sx S S3/\W (i+1) S3 acc)/\
 ∀ S2 acc,Sx S1 S2->S2 p=some (.lst acc)->W I.items.length S2 acc->Q (.ref p) S2
@[simp] noncomputable def pickW (pick:List (Option Nat)) (ρ:Ev):Ev:=pick.map λ o=>o.bind λ i=>(ρ[i]?).join
noncomputable def compL (h:T->Option (Option T)):List T->Option (List T)
 | []=>some []
 | y::ys=>(h y).bind λ o=>(compL h ys).map λ zs=>match o with
  | some z=>z::zs
  | none=>zs
@[simp] noncomputable def lcE (pick:List (Option Nat)) (g:T->Ev->Option Ev) (c:Ev->Option Bool) (f:Ev->Option T) (ρ:Ev) (y:T):Option (Option T):=
 (g y (pickW pick ρ)).bind fun ρ2=>(c ρ2).bind λ b=>if b=true then (f ρ2).map some else some none
noncomputable def lcS (pick:List (Option Nat)) (it:Ev->Option (List T)) (g:T->Ev->Option Ev) (c:Ev->Option Bool) (f:Ev->Option T):Ev->Option T:=fun ρ=>(it ρ).bind λ ts=>if ts.length<=sizeLine then (compL (lcE pick g c f ρ) ts).map .lst else none
@[simp] noncomputable def cTrue:Ev->Option Bool:=λ _=>some true
theorem ok_true:OkT cTrue eTrue:=λ S Z δ ρ y Q hE e hq=>by cases e;exact hq S (.refl S)
def OkC (pick:List (Option Nat)) (g:T->Ev->Option Ev) (t:TDG):Prop:=∀ B S Z δ ρ ρ' y d Q,(∀ i:Nat,pick[i]?=some none->B[i]?=some none)->StLe B δ->δ.length=ρ.length->ER S Z δ ρ->Sn (hid S Z) y d->g y ρ=some ρ'->
 (∀ δ',ER S Z δ' ρ'->StLe B δ'->δ'.length=ρ'.length->Q δ' S)->t d δ S Q
def OkCs (pick:List (Option Nat)) (g:List T->Ev->Option Ev) (t:TDGs):Prop:=∀ B S Z δ ρ ρ' y d Q,(∀ i:Nat,pick[i]?=some none->B[i]?=some none)->StLe B δ->δ.length=ρ.length->ER S Z δ ρ->Sns (hid S Z) y d->g y ρ=some ρ'->
 (∀ δ',ER S Z δ' ρ'->StLe B δ'->δ'.length=ρ'.length->Q δ' S)->t d δ S Q
theorem ER.setIm {S:SS}{Z:Addr->Prop}{δ:StD}{ρ:Ev}{y:T}{d:D}(h:ER S Z δ ρ) (hl:δ.length=ρ.length) (i:Nat) (r:Sn (hid S Z) y d):ER S Z (δ.set i (some d)) (ρ.set i (some (.im y))):=by
 refine⟨h.zd,λ j t e=>?_,λ j ts e=>?_⟩
 ·rcases set_get e with ⟨rfl,hl',e⟩ | ⟨n,e⟩
  ·cases e;exact⟨d,get_set_eq (by rw[hl];exact hl'),r⟩
  ·rw[get_set_ne n];exact h.im j t e
 ·rcases set_get e with ⟨rfl,hl',e⟩ | ⟨n,e⟩
  ·cases e
  ·rw[get_set_ne n];exact h.ow j ts e
variable {pick:List (Option Nat)}
theorem okc_nm (i:Nat) (hi:pick[i]?=some none:=by rfl):OkC pick (nmG i) (hName i):=λ B S Z δ ρ ρ' y d Q hB hs hl hE r e hq=>by
 cases e
 refine hq _ (hE.setIm hl i r) ⟨by rw[List.length_set];exact hs.1,λ j c q=>?_⟩ (by simp[hl])
 by_cases hj:i=j
 ·subst hj;rw[hB i hi] at q;cases q
 ·rw[get_set_ne hj];exact hs.2 j c q
theorem okcs_nil:OkCs pick nilG hNil:=λ B S Z δ ρ ρ' y d Q hB hs hl hE r e hq=>by
 cases y with
 | nil=>simp only[Sns] at r;subst r;cases e;exact⟨rfl,hq _ hE hs hl⟩
 | cons _ _=>cases e
theorem okcs_cons {g:T->Ev->Option Ev}{h:List T->Ev->Option Ev}{t:TDG}{u:TDGs}(hg:OkC pick g t) (hh:OkCs pick h u):OkCs pick (consG g h) (hCons t u):=λ B S Z δ ρ ρ' y d Q hB hs hl hE r e hq=>by
 cases y with
 | nil=>cases e
 | cons y ys=>
  simp only[Sns] at r
  obtain⟨c,cs,rfl,r1,r2⟩:=r
  obtain⟨ρ1,e1,e2⟩:=Option.bind_eq_some_iff.mp e
  exact hg B S Z δ ρ ρ1 y c _ hB hs hl hE r1 e1 fun δ1 E1 s1 l1=>hh B S Z δ1 ρ1 ρ' ys cs Q hB s1 l1 E1 r2 e2 hq
theorem okc_tp {n:Nat}{g:List T->Ev->Option Ev}{t:TDGs}(hg:OkCs pick g t):OkC pick (tpG n g) (hTup n t):=λ B S Z δ ρ ρ' y d Q hB hs hl hE r e hq=>by
 cases y with
 | tup ys=>
  simp only[Sn] at r
  obtain⟨ds,rfl,r⟩:=r
  simp only[tpG] at e
  split at e
  ·rename_i hn
   exact⟨by rw[r.len];exact hn,hg B S Z δ ρ ρ' ys ds Q hB hs hl hE r e hq⟩
  ·cases e
 | non=>cases e
 | bl _=>cases e
 | int _=>cases e
 | str _=>cases e
 | lst _=>cases e
 | dic=>cases e
 | err _ _ _=>cases e
theorem pickW_get {ρ:Ev}{i:Nat}{w:W}(h:(pickW pick ρ)[i]?=some (some w)):∃ j:Nat,pick[i]?=some (some j)/\ρ[j]?=some (some w):=by
 unfold pickW at h
 rw[List.getElem?_map] at h
 cases q:pick[i]? with
 | none=>rw[q] at h;cases h
 | some o=>
  rw[q] at h
  cases o with
  | none=>simp at h
  | some j=>
   simp only[Option.map_some,Option.bind_some,Option.some.injEq] at h
   refine⟨j,rfl,?_⟩
   cases q2:ρ[j]? with
   | none=>rw[q2] at h;cases h
   | some o2=>rw[q2] at h;simp only[Option.join_some] at h;rw[h]
theorem pickD_of {δ:StD}{i j:Nat}{d:D}(h:pick[i]?=some (some j)) (h':δ[j]?=some (some d)):(pickD pick δ)[i]?=some (some d):=by
 unfold pickD
 rw[List.getElem?_map,h]
 simp[h']
theorem ER.pickE {S:SS}{Z:Addr->Prop}{δ:StD}{ρ:Ev}(h:ER S Z δ ρ):ER S Z (pickD pick δ) (pickW pick ρ):=by
 refine⟨h.zd,λ i t e=>?_,λ i ts e=>?_⟩
 ·obtain⟨j,h1,h2⟩:=pickW_get e
  obtain⟨d,h3,h4⟩:=h.im j t h2
  exact⟨d,pickD_of h1 h3,h4⟩
 ·obtain⟨j,h1,h2⟩:=pickW_get e
  obtain⟨p,ds,h3,h4⟩:=h.ow j ts h2
  exact⟨p,ds,pickD_of h1 h3,h4⟩
theorem ER.hide {S S':SS}{Z:Addr->Prop}{δ:StD}{ρ:Ev}{p:Addr}(h:ER S Z δ ρ) (s:Sx S S') (hp:S p=none) (hp':S' p≠none):ER S' (λ a=>Z a\/a=p) δ ρ:=by
 refine⟨λ a z q=>?_,λ i t e=>?_,λ i ts e=>?_⟩
 ·rcases z with z | rfl
  ·exact h.zd a z (s.none q)
  ·exact hp' q
 ·obtain⟨d,h1,h2⟩:=h.im i t e
  exact⟨d,h1,Sn.sx (hid_new s hp) t h2⟩
 ·obtain⟨q,ds,h1,h2,h3,h4⟩:=h.ow i ts e
  exact⟨q,ds,h1,s _ _ h2,RepC.sx (hid_new s hp) h3,.inl h4⟩
theorem ok_lc {it:Ev->Option (List T)}{ti:TDI}{g:T->Ev->Option Ev}{tg:TDG}{c:Ev->Option Bool}{tc:TDT}{f:Ev->Option T}{te:TDE}{b:Bool}(hi:OkI b it ti) (hg:OkC pick g tg) (hc:OkT c tc) (hf:OkE f te):
  OkF (lcS pick it g c f) (dLW pick ti tg tc te):=λ S Z δ ρ y Q hE e hq=>by
 obtain⟨ts,e1,e2⟩:=Option.bind_eq_some_iff.mp e
 split at e2
 case isFalse=>cases e2
 rename_i hlen
 obtain⟨zs,e3,rfl⟩:=Option.map_eq_some_iff.mp e2
 refine hi S Z δ ρ ts _ hE e1 λ I S1 s1 r1 hk=>⟨by rw[r1.len];exact hlen,λ S' s'=>hk S' ?_,λ p hp=>?_⟩
 ·cases b
  ·exact s'
  ·exact (hid_sx _ _).trans s'
 have E1:=hE.grow s1
 have nz:¬ Z p:=λ z=>E1.zd p z hp
 refine⟨λ i S' acc=>∃ us ws,Sns (hid S' λ a=>Z a\/a=p) us acc/\compL (lcE pick g c f ρ) (ts.drop i)=some ws/\zs=us++ws,⟨[],zs,.nil,e3,rfl⟩,λ i S' S'' acc hh ⟨us,ws,h1,h2⟩=>⟨us,ws,Sns.sx (λ a o q=>?_) us h1,h2⟩,λ i d S2 acc hd s2 hacc ⟨us,ws,h1,h2,h3⟩=>?_,λ S2 acc s2 hacc ⟨us,ws,h1,h2,h3⟩=>?_⟩
 ·obtain⟨q1,q2⟩:=hid_some q
  rw[hid_of q1]
  exact hh a o (λ z=>q1 (.inr z)) q2
 ·obtain⟨x,hx,rx⟩:=r1.getD' hd
  have hlt:=(List.getElem?_eq_some_iff.mp hx).1
  have hdt:ts.drop i=x::ts.drop (i+1):=by rw[List.drop_eq_getElem_cons hlt,(List.getElem?_eq_some_iff.mp hx).2]
  rw[hdt] at h2
  unfold compL at h2
  obtain⟨o,o1,h2⟩:=Option.bind_eq_some_iff.mp h2
  obtain⟨ws',o2,rfl⟩:=Option.map_eq_some_iff.mp h2
  have E2:=(E1.hide s2 hp (by rw[hacc];nofun)).pickE (pick:=pick)
  unfold lcE at o1
  obtain⟨ρ2,g1,o1⟩:=Option.bind_eq_some_iff.mp o1
  obtain⟨bb,g2,o1⟩:=Option.bind_eq_some_iff.mp o1
  refine hg (pickD pick δ) S2 _ _ _ ρ2 x d _ (λ j hj=>?_) ⟨rfl,λ _ _ q=>q⟩ (by unfold pickD pickW;simp) E2 (Sn.sx (hid_new s2 hp) x rx) g1 fun δ2 E3 l3 _=>⟨l3,?_⟩
  ·unfold pickD;rw[List.getElem?_map,hj];rfl
  refine hc S2 _ δ2 ρ2 bb _ E3 g2 λ S3 s3=>?_
  split at o1
  ·rename_i hb
   rw[if_pos hb]
   obtain⟨z,g3,rfl⟩:=Option.map_eq_some_iff.mp o1
   refine hf S3 _ δ2 ρ2 z _ (E3.grow s3) g3 λ dz S4 s4 r4=>⟨s3.trans s4,us++[z],ws',?_,o2,by rw[h3];simp⟩
   exact (Sns.sx (hid_mono (s3.trans s4)) us h1).append (.cons r4 .nil)
  ·rename_i hb
   rw[if_neg hb]
   cases o1
   exact⟨s3,us,ws',Sns.sx (hid_mono s3) us h1,o2,h3⟩
 ·rw[show I.items.length=ts.length from r1.len,List.drop_length] at h2
  cases h2
  rw[List.append_nil] at h3
  subst h3
  refine hq _ S2 (s1.trans s2) ⟨?_,λ vs e=>?_⟩
  ·simp only[Sn]
   exact⟨acc,.inr ⟨p,rfl,by rw[hid_of nz];exact hacc⟩,Sns.sx (hid_le λ a z=>.inl z) zs h1⟩
  ·cases e
   exact⟨p,acc,rfl,s1.none hp,hacc,h1⟩
class Sr (R:Rk):Prop extends Lo R where
 sn:∀ {S S':SS}{Z:Addr->Prop}{y:T}{d:D},R S S' Z y d->Sn (hid S' Z) y d
instance:Sr RkV:=⟨λ h=>h⟩
instance:Sr RkF:=⟨λ h=>h.1⟩
def spF (R:Rk) (F:List T->Option T):SpD:=λ ds S Q=>∃ Z ys y,(∀ a,Z a->S a≠none)/\Sns (hid S Z) ys ds/\F ys=some y/\∀ d S',Sx S S'->R S S' Z y d->Q d S'
theorem spF.mo {R:Rk}{F:List T->Option T}:MoP (spF R F):=λ _ _ _ _ hq ⟨Z,ys,y,h1,h2,h3,h4⟩=>⟨Z,ys,y,h1,h2,h3,λ d S' s r=>hq _ _ (h4 d S' s r)⟩
theorem ok_call {R:Rk} [Lo R] {F:List T->Option T}{g:Ev->Option (List T)}{u:TDA}(h:OkAV g u):OkX R (cbS F g) (dCall (spF R F) u):=λ S Z δ ρ y Q hE e hq=>by
 obtain⟨xs,e1,e2⟩:=Option.bind_eq_some_iff.mp e
 refine h S Z δ ρ xs _ hE e1 λ ds S1 s1 r1=>?_
 exact⟨Z,xs,y,(hE.grow s1).zd,r1,e2,λ d S' s r=>hq d S' (s1.trans s) (Cl.cl s1 r)⟩
@[simp] noncomputable def startE (N:List Str) (ys:List T):Ev:=ys.map (λ y=>some (.im y))++List.replicate (N.length-ys.length) none
@[simp] noncomputable def outB:Option Out->Option T
 | some (.rt y)=>some y
 | some (.nx _)=>some .non
 | _=>none
@[simp] noncomputable def runB (N:List Str) (n:Nat) (g:Sm):List T->Option T:=λ ys=>if ys.length=n then outB (g (startE N ys)) else none
theorem spF.len {R:Rk}{N:List Str}{n:Nat}{g:Sm}{ds:List D}{S:SS}{Q:DK}(hs:spF R (runB N n g) ds S Q):ds.length=n:=by
 obtain⟨Z,ys,y,hz,r,e,hq⟩:=hs
 unfold runB at e
 split at e
 ·rename_i h;rw[r.len];exact h
 ·cases e
theorem startD_get {N:List Str}{ds:List D}{i:Nat}{d:D}(h:ds[i]?=some d):(startD N ds)[i]?=some (some d):=by
 have hi:=(List.getElem?_eq_some_iff.mp h).1
 unfold startD
 rw[List.getElem?_append_left (by simpa using hi),List.getElem?_map,h];rfl
theorem startE_get {N:List Str}{ys:List T}{i:Nat}{w:W}(h:(startE N ys)[i]?=some (some w)):∃ y,ys[i]?=some y/\w=.im y:=by
 unfold startE at h
 have hi:i<ys.length:=by
  rcases Nat.lt_or_ge i ys.length with q | q
  ·exact q
  ·rw[List.getElem?_append_right (by simpa using q),List.getElem?_replicate] at h
   split at h <;> cases h
 rw[List.getElem?_append_left (by simpa using hi),List.getElem?_map] at h
 cases q:ys[i]? with
 | none=>rw[q] at h;cases h
 | some y=>rw[q] at h;cases h;exact⟨y,rfl,rfl⟩
theorem body_ok {R:Rk} [Lo R] {N:List Str}{n:Nat}{g:Sm}{t:TDS}(h:OkS R g t) {ds:List D}{S:SS}{Q:DK}(hs:spF R (runB N n g) ds S Q):t { nx:=λ _ S'=>Q .non S',rt:=Q } (startD N ds) S:=by
 obtain⟨Z,ys,y,hz,r,e,hq⟩:=hs
 unfold runB at e
 split at e
 case isFalse=>cases e
 obtain⟨o,e1,e2⟩:∃ o,g (startE N ys)=some o/\outB (some o)=some y:=by
  cases q:g (startE N ys) with
  | none=>rw[q] at e;cases e
  | some o=>exact⟨o,rfl,by rw[<- q];exact e⟩
 refine h S Z S Z _ _ o _ ⟨⟨hz,λ i t e=>?_,λ i ts e=>?_⟩,?_,.refl S,hz,λ _ z=>z,λ _ z=>.inl z,λ i ts p e _=>?_,λ i j ts us p _ e _ _ _=>?_⟩ e1 ?_
 ·obtain⟨y',h1,h2⟩:=startE_get e
  cases h2
  obtain⟨d,h3,h4⟩:=r.getE h1
  exact⟨d,startD_get h3,h4⟩
 ·obtain⟨y',h1,h2⟩:=startE_get e
  cases h2
 ·unfold startD startE
  have:=r.len
  simp[this]
 ·obtain⟨y',h1,h2⟩:=startE_get e
  cases h2
 ·obtain⟨y',h1,h2⟩:=startE_get e
  cases h2
 ·cases o with
  | rt y'=>cases e2;exact λ d S' s r=>hq d S' s r
  | nx ρ'=>
   cases e2
   exact λ S' Z' δ' F=>hq .non S' F.sx (Cl.of (λ _=>nofun) sn_non)
  | bk _=>cases e2
  | ct _=>cases e2
end L5
namespace L5
open PySem L2 L3
noncomputable def valT (kvs:List (Key×T)) (k:Key):Option T:=(kvs.find? λ kv=>decide (kv.1=k)).map (·.2)
section
variable {S:SS}
end
@[simp] noncomputable def dixS (i:Nat) (f:Ev->Option T):Ev->Option T:=fun ρ=>(f ρ).bind λ y=>match ρ[i]?,y with
 | some (some (.own (.dct kvs))),.int k=>valT kvs (.inl k)
 | _,_=>none
section
variable {R:Rk}{f g v:Ev->Option T}{ty tx tv:TDE}
end
theorem good_min:GoodN RkF minS fMin:=good_ii
noncomputable def intsT:List T->Option (List Int)
 | []=>some []
 | .int i::ts=>(intsT ts).map (i::·)
 | _::_=>none
noncomputable def rowsT:List T->Option (List (List Int))
 | []=>some []
 | .tup r::ts=>(intsT r).bind λ x=>(rowsT ts).map (x::·)
 | _::_=>none
noncomputable def rowT (r:List Int):T:=.tup (r.map T.int)
theorem intsT_some:∀ {ts:List T}{is:List Int},intsT ts=some is->ts=is.map T.int
 | [],is,h=>by cases h;rfl
 | .int b::ts,is,h=>by
  unfold intsT at h
  obtain⟨cs,h1,rfl⟩:=Option.map_eq_some_iff.mp h
  rw[List.map_cons,<- intsT_some h1]
 | .non::ts,bs,h=>by cases h
 | .bl _::ts,bs,h=>by cases h
 | .str _::ts,bs,h=>by cases h
 | .tup _::ts,bs,h=>by cases h
 | .lst _::ts,bs,h=>by cases h
theorem rowsT_some:∀ {ts:List T}{rs:List (List Int)},rowsT ts=some rs->ts=rs.map rowT
 | [],is,h=>by cases h;rfl
 | .tup r::ts,is,h=>by
  unfold rowsT at h
  obtain⟨x,h1,h⟩:=Option.bind_eq_some_iff.mp h
  obtain⟨cs,h2,rfl⟩:=Option.map_eq_some_iff.mp h
  rw[List.map_cons,<- rowsT_some h2,intsT_some h1];rfl
 | .non::ts,bs,h=>by cases h
 | .bl _::ts,bs,h=>by cases h
 | .str _::ts,bs,h=>by cases h
 | .int _::ts,bs,h=>by cases h
 | .lst _::ts,bs,h=>by cases h
theorem intsT_map (is:List Int):intsT (is.map T.int)=some is:=by
 induction is with
 | nil=>rfl
 | cons b bs ih=>rw[List.map_cons];unfold intsT;rw[ih];rfl
theorem rowsT_map (rs:List (List Int)):rowsT (rs.map rowT)=some rs:=by
 induction rs with
 | nil=>rfl
 | cons b bs ih=>
  show rowsT (.tup (b.map T.int)::bs.map rowT)=_
  unfold rowsT;rw[intsT_map,ih];rfl
theorem sns_ints {S:SS}:∀ {is:List Int}{ds:List D},Sns S (is.map T.int) ds↔ds=is.map D.int
 | [],ds=>by simp only[List.map_nil,Sns]
 | i::is,ds=>by
  rw[List.map_cons]
  simp only[Sns,Sn]
  constructor
  ·rintro⟨c,cs,rfl,rfl,h⟩
   rw[sns_ints.mp h];rfl
  ·rintro rfl
   exact⟨.int i,_,rfl,rfl,sns_ints.mpr rfl⟩
theorem sns_rows {S:SS}:∀ {rs:List (List Int)}{ds:List D},Sns S (rs.map rowT) ds↔ds=rs.map rowD
 | [],ds=>by simp only[List.map_nil,Sns]
 | r::rs,ds=>by
  rw[List.map_cons]
  simp only[Sns,rowT,Sn]
  constructor
  ·rintro⟨c,cs,rfl,⟨es,rfl,h1⟩,h⟩
   rw[sns_rows.mp h,sns_ints.mp h1];rfl
  ·rintro rfl
   exact⟨rowD r,_,rfl,⟨_,rfl,sns_ints.mpr rfl⟩,sns_rows.mpr rfl⟩
@[simp] noncomputable def tyT:T->Option String
 | .non=>some "NoneType"
 | .bl _=>some "bool"
 | .int _=>some "int"
 | .str _=>some "str"
 | .tup _=>some "tuple"
 | .lst _=>some "list"
 | .dic=>some "dict"
 | .err _ _ _=>none
@[simp] noncomputable def instS (ty:String) (f:Ev->Option T):Ev->Option T:=fun ρ=>(f ρ).bind λ x=>(tyT x).map λ t=>.bl (isT t ty)
theorem Vw.err {S:SS}{Z:Addr->Prop}{c f:Str}{t:T}{d:D}(h:Vw S Z (.err c f t) d):∃ x,d=.err c f x/\Sn (hid S Z) t x:=by
 rcases h with h | ⟨_,_,_,h,_⟩
 ·simpa only [Sn] using h
 ·cases h
theorem ok_inst {ty:String}{f:Ev->Option T}{te:TDE}(hf:OkR f te):OkF (instS ty f) (dInst ty te):=λ S Z δ ρ y Q hE e hq=>by
 obtain⟨x,e1,e2⟩:=Option.bind_eq_some_iff.mp e
 obtain⟨n,e3,rfl⟩:=Option.map_eq_some_iff.mp e2
 refine hf S Z δ ρ x _ hE e1 λ d S1 s1 r1=>?_
 have key:tyD d S1=some n:=by
  rw[<- e3]
  cases x with
  | non=>cases Vw.non r1;rfl
  | bl _=>cases Vw.bl r1;rfl
  | int _=>cases Vw.int r1;rfl
  | str _=>cases Vw.str r1;rfl
  | tup _=>obtain⟨ds,rfl,_⟩:=Vw.tup r1;rfl
  | lst _=>
   obtain⟨ds,rfl | ⟨a,rfl,h1⟩,h2⟩:=Vw.lst r1
   ·rfl
   ·unfold tyD;dsimp only;rw[h1];rfl
  | dic=>
   obtain⟨a,kvs,⟨rfl,_⟩,h1⟩:=Vw.dic r1
   unfold tyD;dsimp only;rw[h1];rfl
  | err _ _ _=>cases e3
 rw[key]
 exact hq _ S1 s1 (Cl.of (λ _=>nofun) sn_bl)
@[simp] noncomputable def isNone:T->Bool
 | .non=>true
 | _=>false
noncomputable def isND:D->Bool
 | .non=>true
 | _=>false
end L5
namespace L5
open PySem L2 L3
noncomputable def prT (p:Int×Int):T:=.tup [.int p.1,.int p.2]
noncomputable def scrT (ns:List Int):T:=.lst (ns.map .int)
@[simp] theorem size_line:sizeLine=16777216:=rfl
theorem atI_natT {α:Type}{xs:List α}{k:Nat}{x:α}(h:xs[k]?=some x):L2.atI xs (k:Int)=some x:=by
 unfold L2.atI L2.ixN
 have hk:=(List.getElem?_eq_some_iff.mp h).1
 rw[if_pos (by omega),if_pos (by omega)]
 simpa using h
@[simp] theorem atI_last {α:Type}{xs:List α}{x:α}:L2.atI (xs++[x]) (-1)=some x:=by
 unfold L2.atI L2.ixN
 rw[if_neg (by omega),if_pos (by simp;omega)]
 have:(-1+((xs++[x]).length:Int)).toNat=xs.length:=by simp;omega
 rw[Option.bind_some,this]
 simp
@[simp] theorem atI_0 {α:Type}{x:α}{xs:List α}:L2.atI (x::xs) 0=some x:=atI_natT (k:=0) rfl
@[simp] theorem atI_1 {α:Type}{x y:α}{xs:List α}:L2.atI (x::y::xs) 1=some y:=atI_natT (k:=1) rfl
@[simp] theorem atI_2 {α:Type}{x y z:α}{xs:List α}:L2.atI (x::y::z::xs) 2=some z:=atI_natT (k:=2) rfl
@[simp] theorem atI_3 {α:Type}{x y z w:α}{xs:List α}:L2.atI (x::y::z::w::xs) 3=some w:=atI_natT (k:=3) rfl
theorem compL_map {α:Type}(enc:α->T) (g:α->Option T) (h:T->Option (Option T)):∀ (xs:List α),(∀ x∈xs,h (enc x)=some (g x))->compL h (xs.map enc)=some (xs.filterMap g)
 | [],_=>rfl
 | x::xs,hh=>by
  rw[List.map_cons]
  unfold compL
  rw[hh x List.mem_cons_self,compL_map enc g h xs λ y hy=>hh y (List.mem_cons_of_mem _ hy)]
  cases q:g x <;> simp[q]
theorem compL_map' {α:Type}(enc:α->T) (g:α->T) (h:T->Option (Option T)) (xs:List α) (hh:∀ x∈xs,h (enc x)=some (some (g x))):compL h (xs.map enc)=some (xs.map g):=by
 rw[compL_map enc (λ x=>some (g x)) h xs hh]
 simp
theorem lc_map {α:Type}(enc:α->T) (h:α->T) {pick:List (Option Nat)}{it:Ev->Option (List T)}{g:T->Ev->Option Ev}{c:Ev->Option Bool}{f:Ev->Option T}{ρ:Ev}(xs:List α) (hi:it ρ=some (xs.map enc)) (hl:xs.length<=16777216)
  (hh:∀ x∈xs,lcE pick g c f ρ (enc x)=some (some (h x))):lcS pick it g c f ρ=some (.lst (xs.map h)):=by
 unfold lcS
 rw[hi,Option.bind_some,if_pos (by rw[List.length_map];exact hl),compL_map' enc h _ xs hh];rfl
section
variable {α:Type}{is:List Nat}{g:T->Ev->Option Ev}{b:Sm}
noncomputable def turn (g:T->Ev->Option Ev) (b:Sm) (y:T) (ρ:Ev):Option Out:=(g y ρ).bind b
theorem loop_cons (y:T) (ys:List T) (ρ:Ev):loopS is g b (y::ys) ρ=(turn g b y (frg is ρ)).bind λ o=>match o with
  | .nx ρ2=>loopS is g b ys ρ2
  | .ct ρ2=>loopS is g b ys ρ2
  | .bk ρ2=>some (.nx (frg is ρ2))
  | .rt t=>some (.rt t):=by
 unfold turn
 rw[loopS]
 cases g y (frg is ρ) <;> rfl
theorem loop_inv (enc:α->T) (I:List α->Ev->Prop):∀ (xs:List α) (pre:List α) (ρ:Ev),I pre (frg is ρ)->
  (∀ p x q,pre++xs=p++x::q->∀ ρ,I p ρ->∃ ρ',turn g b (enc x) ρ=some (.nx ρ')/\I (p++[x]) (frg is ρ'))->∃ ρ',loopS is g b (xs.map enc) ρ=some (.nx ρ')/\I (pre++xs) ρ'
 | [],pre,ρ,h,_=>⟨frg is ρ,by rw[List.map_nil,loopS],by simpa using h⟩
 | x::xs,pre,ρ,h,hs=>by
  obtain⟨ρ',h1,h2⟩:=hs pre x xs rfl _ h
  rw[List.map_cons,loop_cons,h1]
  have ih:=loop_inv enc I xs (pre++[x]) ρ' h2 λ p y q e=>hs p y q (by rw[<- e];simp)
  simpa using ih
theorem loop_inv0 (enc:α->T) (I:List α->Ev->Prop) (xs:List α) (ρ:Ev) (h:I [] (frg is ρ))
  (hs:∀ p x q,xs=p++x::q->∀ ρ,I p ρ->∃ ρ',turn g b (enc x) ρ=some (.nx ρ')/\I (p++[x]) (frg is ρ')):∃ ρ',loopS is g b (xs.map enc) ρ=some (.nx ρ')/\I xs ρ':=loop_inv enc I xs [] ρ h hs
end
theorem rng1_nat (n:Nat) (h:n<=100000):rng1 [.int (n:Int)]=some ((List.range n).map λ(k:Nat)=>T.int (0+(k:Int))):=by
 show (if inR (n:Int)=true then some (rangeT 0 (n:Int).toNat) else none)=_
 rw[if_pos (inR_iff.mpr ⟨by omega,by omega⟩)]
 rfl
theorem rng2_nat (a n:Nat) (h:a<=100000) (h':n<=100000):rng2 [.int (a:Int),.int (n:Int)]=some ((List.range (n-a)).map λ(k:Nat)=>T.int ((a:Int)+(k:Int))):=by
 show (if inR (a:Int)=true/\inR (n:Int)=true then some (rangeT a ((n:Int)-a).toNat) else none)=_
 rw[if_pos ⟨inR_iff.mpr ⟨by omega,by omega⟩,inR_iff.mpr ⟨by omega,by omega⟩⟩,show ((n:Int)-a).toNat=n-a by omega]
 rfl
end L5
namespace L2
open PySem PySem.Spec PyProof.Rows
section
variable {X:Cx}
def rCatL (K:PySem.W.Frag):R2:=λ x y H Q=>∃ l b xs zs,x=.ref l/\y=.ref b/\SqL K H l xs/\SqL K H b zs/\xs.length+zs.length<=sizeLine/\∀ p,H p=none->Q (.ref p) (upd H p (.lst (xs++zs)))
theorem op_catL:OpR X (binaryOp .Add) (rCatL X.K):=by
 intro pins s σ H x y v u Q I rx ry h
 obtain⟨l,b,xs,zs,rfl,rfl,hH,hB,hz,q⟩:=h
 cases rx
 cases ry
 obtain⟨its,r,p1,_⟩:=I.list hH
 obtain⟨its2,r2,p2,_⟩:=I.list hB
 obtain⟨⟨cls,dd,data,sl⟩,ho,hc,n,hd⟩:=p1.isList
 obtain⟨⟨cls2,dd2,data2,sl2⟩,ho2,hc2,n2,hd2⟩:=p2.isList
 simp only at hc hd hc2 hd2
 subst hc hd hc2 hd2
 have e:its.toArray++its2.toArray=(its++its2).toArray:=by simp
 refine concat_meets ⟨_,ho,rfl⟩ ⟨_,ho2,rfl⟩ noFill_list_add seq_list_add PySem.F.slot_list_add PySem.F.entry_list_add (PySem.F.args_list_add_2 _ _) (list_addW l b its.toArray its2.toArray n n2 dd dd2 sl sl2 (by rw[List.size_toArray,List.size_toArray,<- r.length,<- r2.length];exact hz)) ⟨ho,ho2,?_⟩
 rw[e]
 exact⟨.ref _,_,I.lnew (t':=s.toks) (r.append r2) (by rw[List.length_append];omega),rfl,q _ I.fresh⟩
def rCatT0 (K:PySem.W.Frag):R2:=λ x y H Q=>∃ a b ys,x=.ref a/\y=.ref b/\SqT K H a []/\SqT K H b ys/\Q (.ref b) H
theorem op_catT0:OpR X (binaryOp .Add) (rCatT0 X.K):=by
 intro pins s σ H x y v u Q I rx ry h
 obtain⟨l,b,ys,rfl,rfl,hH,hB,q⟩:=h
 cases rx
 cases ry
 obtain⟨its,r,p1,_⟩:=I.tuple hH
 obtain⟨its2,r2,p2,_⟩:=I.tuple hB
 obtain⟨⟨cls,dd,data,sl⟩,ho,hc,n,hd⟩:=id p1
 obtain⟨⟨cls2,dd2,data2,sl2⟩,ho2,hc2,n2,hd2⟩:=id p2
 simp only at hc hd hc2 hd2
 subst hc hd hc2 hd2
 exact concat_meets ⟨_,ho,rfl⟩ ⟨_,ho2,rfl⟩ noFill_tuple_add seq_tuple_add PySem.F.slot_tuple_add PySem.F.entry_tuple_add (PySem.F.args_tuple_add_2 _ _)
   (tuple_addW0 l b its.toArray its2.toArray n n2 dd dd2 sl sl2 (by cases r;rfl)) ⟨ho,ho2,⟨.ref b,H,I,rfl,q⟩⟩
end
end L2
namespace L5
open PySem PySem.Spec L2 L3
open PyProof.Rows hiding St
section
variable {X:Cx}{K:PySem.W.Frag}{a b c e:Expr}{es:List Expr}{ta tb tc te:TDE}{tA:TDA}{pos p:Pos}
theorem fAddV.mo:MoR fAddV:=λ x y S Q Q' hq h=>by
 cases x with
 | non=>exact h
 | bl _=>exact h
 | err _ _ _=>exact h
 | int i=>cases y <;> first | exact hq _ _ h | exact h
 | str i=>cases y <;> first | exact⟨h.1,hq _ _ h.2⟩ | exact h
 | tup i=>cases y <;> first | exact⟨h.1,hq _ _ h.2⟩ | exact h
 | rol ds=>
  unfold fAddV at h ⊢
  dsimp only at h ⊢
  split at h
  ·exact⟨h.1,h.2.1,λ r hr=>hq _ _ (h.2.2 r hr)⟩
  ·exact h.elim
 | ref q=>
  unfold fAddV at h ⊢
  dsimp only at h ⊢
  split at h
  ·exact⟨h.1,h.2.1,λ r hr=>hq _ _ (h.2.2 r hr)⟩
  ·exact h.elim
theorem seq_sqL {H:Hp}{S:SS}{d:D}{v:V}{ds:List D}(r:RepD K H d v) (p:RepH K H S) (e:seqOf d S=some ds) (n:∀ ts,d≠.tup ts):∃ a xs,v=.ref a/\SqL K H a xs/\RepDs K H ds xs:=by
 unfold seqOf at e
 split at e
 ·exact absurd rfl (n _)
 ·cases e
  simp only[RepD] at r
  obtain⟨a,xs,h1,h2,h3⟩:=r
  exact⟨a,xs,h1,h2.sq,h3⟩
 ·split at e
  ·rename_i q
   cases e
   simp only[RepD] at r
   subst r
   obtain⟨xs,h1,h2⟩:=p _ _ q
   exact⟨_,xs,rfl,SqL.of h1,h2⟩
  ·cases e
 ·cases e
abbrev rAddV (K:PySem.W.Frag):R2:=λ x y H Q=>rI0 (λ i j=>.int (i+j)) x y H Q\/((∃ i j,x=.str i/\y=.str j/\i.length+j.length<=sizeLine/\Q (.str (i++j)) H)\/(rCatL K x y H Q\/(rCatT0 K x y H Q\/rCatT K x y H Q)))
theorem fAddV.fits:Fits2 K fAddV (rAddV K):=λ x y d e H S Q h1 h2 h3 h=>by
 have lst:(∀ ts,d≠.tup ts)->(match seqOf d S,seqOf e S with
  | some ds,some es=>(∀ ts,e≠.tup ts)/\ds.length+es.length<=sizeLine/\∀ r,S r=none->dnK K H Q (.ref r) (ups S r (.lst (ds++es)))
  | _,_=>False)->rAddV K x y H Q:=λ n h=>by
  split at h
  ·rename_i ds es q1 q2
   obtain⟨a,xs,rfl,g1,g2⟩:=seq_sqL h1 h3 q1 n
   obtain⟨b,ys,rfl,g3,g4⟩:=seq_sqL h2 h3 q2 h.1
   refine .inr (.inr (.inl ⟨a,b,xs,ys,rfl,rfl,g1,g3,by rw[<- g2.length,<- g4.length];exact h.2.1,λ p hp=>?_⟩))
   exact h.2.2 p (h3.none hp) _ _ (by simp only[RepD]) (.new hp _) (h3.ups (.new hp _) ⟨_,upd_same,RepDs.ext (.new hp _) _ (g2.append g4)⟩)
  ·exact h.elim
 cases d with
 | non=>exact h.elim
 | bl _=>exact h.elim
 | err _ _ _=>exact h.elim
 | int i=>
  cases e with
  | int j=>
   simp only[RepD] at h1 h2
   exact .inl ⟨_,_,h1,h2,h _ H (by simp only[RepD]) (.refl H) h3⟩
  | non=>exact h.elim
  | bl _=>exact h.elim
  | str _=>exact h.elim
  | err _ _ _=>exact h.elim
  | tup _=>exact h.elim
  | rol _=>exact h.elim
  | ref _=>exact h.elim
 | str i=>
  cases e with
  | str j=>
   simp only[RepD] at h1 h2
   exact .inr (.inl ⟨_,_,h1,h2,h.1,h.2 _ H (by simp only[RepD]) (.refl H) h3⟩)
  | non=>exact h.elim
  | bl _=>exact h.elim
  | err _ _ _=>exact h.elim
  | int _=>exact h.elim
  | tup _=>exact h.elim
  | rol _=>exact h.elim
  | ref _=>exact h.elim
 | tup ds=>
  cases e with
  | tup es=>
   have h1':=h1
   have h2':=h2
   simp only[RepD] at h1 h2
   obtain⟨a,xs,rfl,g1,g2⟩:=h1
   obtain⟨b,ys,rfl,g3,g4⟩:=h2
   have hl:=g2.length
   have hl':=g4.length
   by_cases hx:xs=[]
   ·subst hx
    have:ds=[]:=by cases ds <;> simp_all
    subst this
    exact .inr (.inr (.inr (.inl ⟨a,b,ys,rfl,rfl,g1,g3,h.2 _ H h2' (.refl H) h3⟩)))
   ·refine .inr (.inr (.inr (.inr ⟨a,b,xs,ys,rfl,rfl,g1,g3,hx,by rw[<- hl,<- hl'];exact h.1,λ hy=>?_,λ hy p hp=>?_⟩)))
    ·subst hy
     have:es=[]:=by cases es <;> simp_all
     subst this
     refine h.2 _ H ?_ (.refl H) h3
     rw[List.append_nil];exact h1'
    ·refine h.2 _ _ ?_ (.new hp _) (h3.new hp)
     simp only[RepD]
     exact⟨p,_,rfl,SqT.of upd_same,RepDs.ext (.new hp _) _ (g2.append g4)⟩
  | non=>exact h.elim
  | bl _=>exact h.elim
  | int _=>exact h.elim
  | str _=>exact h.elim
  | err _ _ _=>exact h.elim
  | rol _=>exact h.elim
  | ref _=>exact h.elim
 | rol ds=>exact lst (λ _=>nofun) h
 | ref q=>exact lst (λ _=>nofun) h
theorem pd_addV (ha:PD X a ta) (hb:PD X b tb):PD X (.BinOp a .Add b pos) (dOp fAddV ta tb):=pd_op (op_add.or (op_add_str.or (op_catL.or (op_catT0.or op_catT)))) fAddV.fits fAddV.mo ha hb
theorem fBsV.mo {g:List Bool->Bool}:MoN (fBsV g):=λ ds S Q Q' hq h=>by
 unfold fBsV at h ⊢
 split at h
 ·exact h.elim
 ·obtain⟨bs,h1,h2⟩:=h
  exact⟨bs,h1,hq _ _ h2⟩
 ·exact h.elim
theorem fBsV.fits {g:List Bool->Bool}:FitsN K (fBsV g) (λ xs H Q=>∃ p,∃ bs:List Bool,xs=[.ref p]/\SqL K H p (bs.map V.bl)/\Q (.bl (g bs)) H):=λ xs ds H S Q h0 h2 h=>by
 unfold fBsV at h
 split at h
 ·exact h.elim
 ·rename_i d hn
  obtain⟨x,hx,h1⟩:=h0.one;subst hx
  obtain⟨bs,e,h⟩:=h
  obtain⟨a,ys,rfl,g1,g2⟩:=seq_sqL h1 h2 e (λ ts z=>hn ts z)
  rw[g2.bools] at g1
  exact⟨a,bs,rfl,g1,h _ H (by simp only[RepD]) (.refl H) h2⟩
 ·exact h.elim
theorem pd_allV (hm:X.mg "all"=none) (ha:PDA X (e::es) tA) (hc:X.calm=true:=by rfl) (hg:Gl X "all":=by rfl) (he:starEach (e::es) X.env=(false,eval e X.env)::starEach es X.env:=by rfl) (hpl:(backTo pos (starEach es X.env)).any (·.1)=false:=by rfl):PD X (.Call (.Name "all" p) (e::es) [] pos) (dCB (fBsV λ bs=>bs.all id) tA):=
 pd_of_callB (pe_callB (call_allB hc) hg hm boot_all ha.pa (by decide) (by decide) he hpl) fBsV.mo fBsV.fits ha.mo
theorem isND_ok {H:Hp}{d:D}{v:V}(r:RepD K H d v):decide (v=.non)=isND d:=by
 cases d with
 | non=>simp only[RepD] at r;subst r;rfl
 | bl _=>simp only[RepD] at r;subst r;rfl
 | int _=>simp only[RepD] at r;subst r;rfl
 | str _=>simp only[RepD] at r;subst r;rfl
 | tup _=>simp only[RepD] at r;obtain⟨a,xs,rfl,_⟩:=r;rfl
 | rol _=>simp only[RepD] at r;obtain⟨a,xs,rfl,_⟩:=r;rfl
 | err _ _ _=>simp only[RepD] at r;obtain⟨a,_,_,_,rfl,_⟩:=r;rfl
 | ref _=>simp only[RepD] at r;subst r;rfl
section
variable {N':List Str}{pick:List (Option Nat)}{scope:Scope}{tg elt iter:Expr}{ifs:List Expr}{ti:TDI}{g:TDG}{tcc:TDT}
theorem dLW.mo (hi:MoI ti):MoE (dLW pick ti g tcc te):=fun δ S Q Q' hq z=>hi δ S _ _ (λ I S1 ⟨h1,h2,h3⟩=>⟨h1,h2,λ p hp=>by
 obtain⟨W,w0,w1,w2,w3⟩:=h3 p hp
 exact⟨W,w0,w1,w2,λ S2 acc a b c=>hq _ _ (w3 S2 acc a b c)⟩⟩) z
theorem upLW (hi:MoI ti) (hg:MoG g) (hc:MoT tcc) (he:MoE te) {σ:St}{H:Hp}{Q:VK}(hu:upE K (dLW pick ti g tcc te) σ H Q):tLC pick (upI K ti) (upG K g) (upT K tcc) (upE K te) σ H Q:=by
 obtain⟨δ,S,r1,r2,z⟩:=hu
 refine⟨δ,S,r1,r2,hi δ S _ _ (λ I S1 hF J H1 e1 p1 rep D hD=>?_) z⟩
 obtain⟨hlen,hk,hF⟩:=hF
 have hS1:S1 D=none:=p1.none hD
 obtain⟨W,w0,wm,wstep,wfin⟩:=hF D hS1
 refine⟨λ i m σ H2=>m=I.items.length-i/\i<=I.items.length/\Ext H1 H2/\RepSt K H2 (pickD pick δ) σ/\∃ S2 acc,RepH K H2 S2/\Sx S1 S2/\S2 D=some (.lst acc)/\acc.length<=i/\W i S2 acc,⟨_,rfl,Nat.zero_le _,.new hD _,((r1.ext e1).pick pick).ext (.new hD _),ups S1 D (.lst []),[],?_,.new hS1 _,ups_same,Nat.le_refl _,?_⟩,?_⟩
 ·exact p1.ups (.new hD _) ⟨[],upd_same,.nil⟩
 ·exact wm 0 S1 _ [] (λ b o hb q=>by rw[ups_ne hb];exact q) w0
 rintro i m σ2 H2 ⟨rfl,hi',x2,q1,S2,acc,q2,sx,hS2,hacc,hW⟩
 obtain⟨g1,g2⟩:=rep i H2 S2 x2 q2 (hk S2 sx)
 by_cases hl:i<I.items.length
 ·have hd:I.items[i]?=some I.items[i]:=by simp[hl]
  obtain⟨go,yl⟩:=g1 _ hd
  refine .inr ⟨go,λ x H3 hy=>?_⟩
  obtain⟨x3,p3,d3⟩:=yl x H3 hy
  refine⟨_,_,S2,d3,q1.ext x3,p3,hg _ _ S2 _ _ (fun δ4 S4 z4 σ4 H4 a1 a2 a3=>?_) (wstep i _ S2 acc hd sx hS2 hW)⟩
  obtain⟨hle,z4⟩:=z4
  refine upT.go hc a1 a3 z4 λ b S5 H5 z5 x5 p5=>ite_imp (λ z5=>?_) (λ z5=>?_) z5
  ·refine upE.go he (a1.ext x5) p5 z5 λ y S6 v H6 z6 q6 x6 p6=>?_
   obtain⟨s6,hW6⟩:=z6
   obtain⟨ys,h6,r6⟩:=p6 _ _ (s6 _ _ hS2)
   have e6:Ext H6 (upd H6 D (.lst (ys++[v]))):=.lst h6 _
   have hlen2:ys.length<=i:=by rw[<- r6.length];exact hacc
   refine⟨ys,I.items.length-(i+1),h6,by omega,by omega,rfl,hl,((((x2.trans x3).trans a2).trans x5).trans x6).trans e6,hle.rep ((a1.ext (x5.trans x6)).ext e6),ups S6 D (.lst (acc++[y])),acc++[y],?_,λ b o hb=>?_,ups_same,by simp;omega,?_⟩
   ·exact p6.ups e6 ⟨_,upd_same,RepDs.ext e6 _ (r6.snoc q6)⟩
   ·rw[ups_ne (by intro q;subst q;rw[hS1] at hb;cases hb)]
    exact s6 _ _ (sx _ _ hb)
   ·exact wm _ S6 _ _ (λ b o hb q=>by rw[ups_ne hb];exact q) hW6
  ·obtain⟨s5,hW5⟩:=z5
   exact⟨I.items.length-(i+1),by omega,rfl,hl,((x2.trans x3).trans a2).trans x5,hle.rep (a1.ext x5),S5,acc,p5,sx.trans s5,s5 _ _ hS2,by omega,hW5⟩
 ·have e:i=I.items.length:=by omega
  subst e
  exact .inl ⟨g2 (Nat.le_refl _),wfin S2 acc sx hS2 hW _ H2 (by simp only[RepD]) (e1.trans x2) q2⟩
theorem pd_lw (Sc:CScope X N' pick scope) (hc:X.calm=true) (hi:PDI X tg iter ti) (hg:∀ cl C s H fp,PDG (cxC X N' scope cl C s H fp) tg g) (hf:∀ cl C s H fp,PDF (cxC X N' scope cl C s H fp) ifs tcc) (he:∀ cl C s H fp,PD (cxC X N' scope cl C s H fp) elt te)
  (hs:∀ x,foldedSetIterable iter X.env x=pure x:=by intro _;rfl):
  PD X (.ListComp elt [⟨tg,iter,ifs,0⟩] scope pos) (dLW pick ti g tcc te):=
 ⟨dLW.mo hi.mo,λ pins s σ H Q I hu=>pe_lc (g:=upG X.K g) (tc:=upT X.K tcc) (te:=upE X.K te) Sc hc hi.pi (λ cl C s H fp=>(hg cl C s H fp).pg) (λ cl C s H fp=>(hf cl C s H fp).pf) (λ cl C s H fp=>(he cl C s H fp).pe) hs pins s σ H Q I (upLW hi.mo (hg [] 0 s H []).mo (hf [] 0 s H []).mo (he [] 0 s H []).mo hu)⟩
end
end
section
variable {P:Program}{w:World}{K:PySem.W.Frag}{mg:Str->Option Value}{base:Heap}{f:Addr}{fd:FuncData}
theorem fn5 {R:Rk} [Lo R] {x:Str}{st:Stmt}{N ps:List Str}{k n:Nat}{g:Sm}(F:Fun K x x st f fd) (Sc:FnScope N ps (defScope st)) (hn:n=ps.length)
  (hbody:∀ (cdv:Value) (A:Around) (outer:List Env) (s:Shared) (H:Hp) (E:XK),Room k (A.deeper (envOfC x (defScope st) s.heap.objs.size f cdv))->
   ∃ t,PDSs (cxOf CX0 P w K mg base N x (defScope st) f cdv A outer s H E).nox (defBody st) t/\OkS R g t):FnOk P w K mg base CX0 (k+1) f fd ps (upP K (spF R (runB N n g))):=
 fun_ok F Sc (λ ds S Q h=>by rw[h.len,hn]) λ cdv A outer s H E hr=>by
  obtain⟨t,h1,h2⟩:=hbody cdv A outer s H E hr
  exact⟨t,h1,λ ds S Q h=>body_ok h2 h⟩
theorem fd5 {R:Rk} [Lo R] {x:Str}{st:Stmt}{N ps:List Str}{k n:Nat}{g:Sm}(F:Fun K x x st f fd) (hm:mg x=some (.ref f)) (Sc:FnScope N ps (defScope st)) (hn:n=ps.length)
  (hb:∀ (kV doc pm:Value) (an:Option Addr) (cdv ct:Value) (us:List Value),us.length=ps.length->bindArgs (PySem.W.fnOf x x (defArgs st) (defBody st) (defScope st) .none kV doc pm an cdv ct) ⟨us,[]⟩=pure (ps.zip us))
  (hbody:∀ (cdv:Value) (A:Around) (outer:List Env) (s:Shared) (H:Hp) (E:XK),Room k (A.deeper (envOfC x (defScope st) s.heap.objs.size f cdv))->
   ∃ t,PDSs (cxOf CX0 P w K mg base N x (defScope st) f cdv A outer s H E).nox (defBody st) t/\OkS R g t):FD P w K mg base x (k+1) ps (spF R (runB N n g)):=
 ⟨⟨f,fd,fn5 F Sc hn hbody,hm,F.kp,F.binds hb⟩,spF.mo⟩
theorem law5 {R:Rk} [Sr R] {F:List T->Option T}(hF:∀ ns:List Int,ns.length<=63->F [.lst (ns.map T.int)]=some (.bl true)) {H:Hp}{a:Addr}{ns:List Int}{E:XK}(hO:Only H) (hS:SqL K H a (ns.map V.int)) (hl:ns.length<=63):upP K (spF R F) [.ref a] H (λ v _=>v=.bl true) E:=by
 have hFz:SqF K H a (ns.map V.int):=by
  rcases hS with (h | h) | h
  ·rcases hO a with z | ⟨o,xs,z⟩
   ·rw[h] at z;cases z
   ·rw[h] at z;cases z
  ·exact .inl h
  ·exact .inr h
 refine⟨[.rol (ns.map D.int)],λ _=>none,.cons ?_ .nil,(λ a o z=>nomatch z),λ _=>False,[.lst (ns.map T.int)],.bl true,nofun,.cons ?_ .nil,hF ns hl,λ d S' s r v H' rv _ _=>?_⟩
 ·simp only[RepD]
  exact⟨a,_,rfl,hFz,RepDs.of_ints ns⟩
 ·simp only[Sn]
  exact⟨_,.inl ⟨rfl,onlyI_ints ns⟩,sns_ints.mpr rfl⟩
 ·have:=Sr.sn r
  simp only[Sn] at this
  subst this
  simpa only [RepD] using rv
end
end L5
namespace ST
open PySem PySem.SetTable
def Ris (xs:List Nat):Prop:=xs.Pairwise (· < ·)
theorem getD_lt {xs:Array Nat}{m d:Nat}(h:m<xs.size):xs.getD m d=xs[m]:=by simp[Array.getD,h]
theorem below_go (xs:Array Nat) (j:Nat) (hr:Ris xs.toList):∀ (f lo hi:Nat),hi-lo<=f->lo<=hi->hi<=xs.size->(∀ i (h:i<xs.size),i<lo->xs[i]<j)->(∀ i (h:i<xs.size),hi<=i->j<=xs[i])->
  below.go xs j f lo hi<=xs.size/\(∀ i (h:i<xs.size),i<below.go xs j f lo hi->xs[i]<j)/\∀ i (h:i<xs.size),below.go xs j f lo hi<=i->j<=xs[i]
 | 0,lo,hi,h1,h2,h3,h4,h5=>by
  unfold below.go
  have:lo=hi:=by omega
  subst this
  exact⟨h3,h4,h5⟩
 | f+1,lo,hi,h1,h2,h3,h4,h5=>by
  unfold below.go
  have ris:∀ i k (hi:i<xs.size) (hk:k<xs.size),i<=k->xs[i]<=xs[k]:=λ i k hi hk hik=>by
   rcases Nat.lt_or_ge i k with q | q
   ·have r:=List.pairwise_iff_getElem.mp hr i k (by simpa using hi) (by simpa using hk) q
    rw[Array.getElem_toList,Array.getElem_toList] at r
    exact Nat.le_of_lt r
   ·have:i=k:=by omega
    subst this;exact Nat.le_refl _
  by_cases hl:lo<hi
  ·rw[if_pos hl]
   dsimp only
   have hm:(lo+hi)/2<xs.size:=by omega
   rw[getD_lt hm]
   by_cases c:xs[(lo+hi)/2]<j
   ·rw[if_pos c]
    refine below_go xs j hr f _ hi (by omega) (by omega) h3 (λ i hi' hlt=>?_) h5
    have:=ris i ((lo+hi)/2) hi' hm (by omega)
    omega
   ·rw[if_neg c]
    refine below_go xs j hr f lo _ (by omega) (by omega) (by omega) h4 (λ i hi' hge=>?_)
    have:=ris ((lo+hi)/2) i hm hi' hge
    omega
  ·rw[if_neg hl]
   have:lo=hi:=by omega
   subst this
   exact⟨h3,h4,h5⟩
theorem below_spec {xs:Array Nat}{j:Nat}(hr:Ris xs.toList):below xs j<=xs.size/\(∀ i (h:i<xs.size),i<below xs j->xs[i]<j)/\∀ i (h:i<xs.size),below xs j<=i->j<=xs[i]:=
 below_go xs j hr xs.size 0 xs.size (by omega) (by omega) (Nat.le_refl _) (λ i h q=>by omega) (λ i h q=>by omega)
theorem below_at {xs:Array Nat}{j i:Nat}(hr:Ris xs.toList) (h:xs[i]?=some j):below xs j=i:=by
 obtain⟨h1,h2,h3⟩:=below_spec (j:=j) hr
 obtain⟨hi,e⟩:=Array.getElem?_eq_some_iff.mp h
 have a:¬ i<below xs j:=λ q=>by have:=h2 i hi q;omega
 have b:¬ below xs j<i:=λ q=>by
  have:=h3 (below xs j) (by omega) (Nat.le_refl _)
  have r:=List.pairwise_iff_getElem.mp hr (below xs j) i (by simp;omega) (by simpa using hi) q
  simp at r
  omega
 omega
theorem below_mem {xs:Array Nat}{j:Nat}(hr:Ris xs.toList):(xs[below xs j]?=some j)↔j∈xs.toList:=by
 constructor
 ·intro h
  obtain⟨hi,e⟩:=Array.getElem?_eq_some_iff.mp h
  rw[<- e];simp
 ·intro h
  obtain⟨i,hi,e⟩:=List.mem_iff_getElem.mp h
  have hx:xs[i]?=some j:=by
   simp at hi
   simp[hi] at e ⊢;exact e
  rw[below_at hr hx];exact hx
noncomputable def adv (M:Nat) (p:Probe):Probe:=
 if p.more>0 then { p with j:=p.j+1,more:=p.more-1 } else
 let (i,perturb):=leap M p.i p.perturb
 { p with j:=i,more:=runEnd M i-i,i,perturb }
theorem adv_eq (t:SetTable) (p:Probe):t.advance p=adv t.mask p:=rfl
noncomputable def run0 (M i perturb:Nat):Probe:={ j:=i,more:=runEnd M i-i,i:=i,perturb:=perturb,dummy:=none }
noncomputable def way (M:Nat) (h:Int):Nat->Probe
 | 0=>run0 M (bits h%(M+1)) (bits h)
 | k+1=>adv M (way M h k)
theorem adv_dummy (M:Nat) (p:Probe) (h:p.dummy=none):(adv M p).dummy=none:=by
 unfold adv
 split
 ·exact h
 ·exact h
theorem way_dummy (M:Nat) (h:Int):∀ k,(way M h k).dummy=none
 | 0=>rfl
 | k+1=>adv_dummy M _ (way_dummy M h k)
noncomputable def leaps (M:Nat) (h:Int):Nat->Nat×Nat
 | 0=>(bits h%(M+1),bits h)
 | n+1=>leap M (leaps M h n).1 (leaps M h n).2
theorem run_walk (M i pt:Nat) (h:Int) (k:Nat) (hk:way M h k=run0 M i pt):∀ m,m<=runEnd M i-i->way M h (k+m)={ j:=i+m,more:=runEnd M i-i-m,i:=i,perturb:=pt,dummy:=none }
 | 0,_=>by rw[Nat.add_zero,hk];rfl
 | m+1,hm=>by
  have ih:=run_walk M i pt h k hk m (by omega)
  show adv M (way M h (k+m))=_
  rw[ih]
  unfold adv
  rw[if_pos (by show runEnd M i-i-m>0;omega)]
  simp only[Probe.mk.injEq]
  exact⟨by omega,by omega,trivial,trivial,trivial⟩
theorem runEnd_le (M i:Nat):runEnd M i-i<=9:=by unfold runEnd;split <;> omega
theorem run_next (M:Nat) (h:Int) (n k:Nat) (hk:way M h k=run0 M (leaps M h n).1 (leaps M h n).2):way M h (k+(runEnd M (leaps M h n).1-(leaps M h n).1)+1)=run0 M (leaps M h (n+1)).1 (leaps M h (n+1)).2:=by
 have:=run_walk M _ _ h k hk _ (Nat.le_refl _)
 show adv M (way M h (k+_))=_
 rw[this]
 unfold adv
 rw[if_neg (by show ¬ _-_-(_-_)>0;omega)]
 rfl
theorem run_at (M:Nat) (h:Int):∀ n,∃ k,k<=10*n/\way M h k=run0 M (leaps M h n).1 (leaps M h n).2
 | 0=>⟨0,by omega,rfl⟩
 | n+1=>by
  obtain⟨k,h1,h2⟩:=run_at M h n
  have:=runEnd_le M (leaps M h n).1
  exact⟨_,by omega,run_next M h n k h2⟩
theorem bits_lt (h:Int):bits h<2 ^ 64:=by
 unfold bits
 have h1:=Int.emod_nonneg h (show (2 ^ 64:Int)≠0 by decide)
 have h2:=Int.emod_lt_of_pos h (show (0:Int)<2 ^ 64 by decide)
 omega
theorem perturb_small (M:Nat) (h:Int):∀ n,(leaps M h n).2*32 ^ n<=bits h
 | 0=>by simp[leaps]
 | n+1=>by
  have ih:=perturb_small M h n
  show ((leaps M h n).2/32)*32 ^ (n+1)<=_
  have:(leaps M h n).2/32*32<=(leaps M h n).2:=Nat.div_mul_le_self _ _
  calc (leaps M h n).2/32*32 ^ (n+1)=((leaps M h n).2/32*32)*32 ^ n:=by rw[Nat.pow_succ,Nat.mul_comm (32 ^ n) 32,Nat.mul_assoc]
   _<=(leaps M h n).2*32 ^ n:=Nat.mul_le_mul_right _ this
   _<=_:=ih
theorem perturb_zero (M:Nat) (h:Int) (n:Nat) (hn:13<=n):(leaps M h n).2=0:=by
 rcases Nat.eq_zero_or_pos (leaps M h n).2 with q | q
 ·exact q
 ·have h1:=perturb_small M h n
  have h2:=bits_lt h
  have h3:32 ^ 13<=32 ^ n:=Nat.pow_le_pow_right (by decide) hn
  have h4:1*32 ^ n<=(leaps M h n).2*32 ^ n:=Nat.mul_le_mul_right _ q
  have h5:(2:Nat) ^ 64<32 ^ 13:=by decide
  omega
noncomputable def orb (M:Nat) (i:Nat):Nat->Nat
 | 0=>i
 | n+1=>(orb M i n*5+1)%(M+1)
theorem leaps_orb (M:Nat) (h:Int):∀ n,(leaps M h (13+n)).1=orb M (leaps M h 13).1 n
 | 0=>rfl
 | n+1=>by
  have ih:=leaps_orb M h n
  have hz:=perturb_zero M h (13+n) (by omega)
  show ((leaps M h (13+n)).1*5+1+(leaps M h (13+n)).2/32)%(M+1)=_
  rw[hz,ih]
  rfl
theorem orb_add (M i:Nat):∀ a b,orb M i (a+b)=orb M (orb M i a) b
 | a,0=>rfl
 | a,b+1=>by
  show (orb M i (a+b)*5+1)%(M+1)=_
  rw[orb_add M i a b];rfl
noncomputable def orbs (M:Nat):Nat->Nat->List Nat
 | 0,_=>[]
 | n+1,i=>i::orbs M n ((i*5+1)%(M+1))
theorem orbs_get (M:Nat):∀ n i x,x∈orbs M n i->∃ k,k<n/\orb M i k=x
 | 0,i,x,h=>by cases h
 | n+1,i,x,h=>by
  rcases List.mem_cons.mp h with e | e
  ·exact⟨0,by omega,e.symm⟩
  ·obtain⟨k,h1,h2⟩:=orbs_get M n _ x e
   exact⟨k+1,by omega,by rw[Nat.add_comm,orb_add];exact h2⟩
def Mok (M:Nat):Prop:=M=7\/M=31\/M=127
theorem orb_all (M:Nat) (hM:Mok M):(∀ e,e<=M->e∈orbs M (M+1) 0)/\orb M 0 (M+1)=0:=by
 have key:∀ M,((List.range (M+1)).all λ e=>(orbs M (M+1) 0).contains e)=true->∀ e,e<=M->e∈orbs M (M+1) 0:=λ M h e he=>by
  have:=List.all_eq_true.mp h e (List.mem_range.mpr (by omega))
  simpa using this
 rcases hM with rfl | rfl | rfl
 ·exact⟨key 7 (by decide +kernel),by decide +kernel⟩
 ·exact⟨key 31 (by decide +kernel),by decide +kernel⟩
 ·exact⟨key 127 (by decide +kernel),by decide +kernel⟩
theorem orb_meets (M:Nat) (hM:Mok M) (i e:Nat) (hi:i<=M) (he:e<=M):∃ n,n<=M/\orb M i n=e:=by
 obtain⟨h1,h2⟩:=orb_all M hM
 obtain⟨a,a1,a2⟩:=orbs_get M _ _ _ (h1 i hi)
 obtain⟨b,b1,b2⟩:=orbs_get M _ _ _ (h1 e he)
 rcases Nat.lt_or_ge b a with q | q
 ·refine⟨M+1+b-a,by omega,?_⟩
  rw[<- a2,<- orb_add,show a+(M+1+b-a)=(M+1)+b by omega,orb_add,h2,b2]
 ·refine⟨b-a,by omega,?_⟩
  rw[<- a2,<- orb_add,show a+(b-a)=b by omega,b2]
theorem leaps_le (M:Nat) (h:Int):∀ n,(leaps M h n).1<=M
 | 0=>by have:=Nat.mod_lt (bits h) (show 0<M+1 by omega);show bits h%(M+1)<=M;omega
 | n+1=>by
  have:=Nat.mod_lt ((leaps M h n).1*5+1+(leaps M h n).2/32) (show 0<M+1 by omega)
  show (_%(M+1):Nat)<=M
  omega
theorem leaps_meets (M:Nat) (hM:Mok M) (h:Int) (e:Nat) (he:e<=M):∃ n,n<M+14/\(leaps M h n).1=e:=by
 obtain⟨n,h1,h2⟩:=orb_meets M hM (leaps M h 13).1 e (leaps_le M h 13) he
 exact⟨13+n,by omega,by rw[leaps_orb,h2]⟩
theorem way_meets (M:Nat) (hM:Mok M) (h:Int) (e:Nat) (he:e<=M):∃ k,k<10*(M+15)/\(way M h k).j=e:=by
 obtain⟨n,h1,h2⟩:=leaps_meets M hM h e he
 obtain⟨k,k1,k2⟩:=run_at M h n
 exact⟨k,by omega,by rw[k2];exact h2⟩
end ST
namespace ST
open PySem PySem.SetTable
theorem way_top (M:Nat) (h:Int):∀ k,(way M h k).j+(way M h k).more<=M/\(way M h k).i<=M
 | 0=>by
  have h1:bits h%(M+1)<=M:=by have:=Nat.mod_lt (bits h) (show 0<M+1 by omega);omega
  refine⟨?_,h1⟩
  show bits h%(M+1)+(runEnd M (bits h%(M+1))-bits h%(M+1))<=M
  unfold runEnd;split <;> omega
 | k+1=>by
  obtain⟨h1,h2⟩:=way_top M h k
  show (adv M (way M h k)).j+(adv M (way M h k)).more<=M/\(adv M (way M h k)).i<=M
  unfold adv
  split
  ·rename_i c
   exact⟨by show (way M h k).j+1+((way M h k).more-1)<=M;omega,h2⟩
  ·have h3:((way M h k).i*5+1+(way M h k).perturb/32)%(M+1)<=M:=by have:=Nat.mod_lt ((way M h k).i*5+1+(way M h k).perturb/32) (show 0<M+1 by omega);omega
   refine⟨?_,h3⟩
   show _%(M+1)+(runEnd M (_%(M+1))-_%(M+1))<=M
   unfold runEnd;split <;> omega
theorem way_j (M:Nat) (h:Int) (k:Nat):(way M h k).j<=M:=by have:=(way_top M h k).1;omega
structure Tab (t:SetTable) (hs:List Int):Prop where
 mask:Mok t.mask
 dum:t.dummies=#[]
 len:t.place.size=hs.length
 ris:Ris t.place.toList
 top:∀ j∈t.place.toList,j<=t.mask
 rch:∀ (i:Nat) h j,hs[i]?=some h->t.place[i]?=some j->∃ k,(way t.mask h k).j=j/\∀ k'<k,(way t.mask h k').j∈t.place.toList
theorem Tab.live {t:SetTable}{hs:List Int}(T:Tab t hs) {i j:Nat}(h:t.place[i]?=some j):t.slot j=.live i:=by
 unfold SetTable.slot
 dsimp only
 rw[below_at T.ris h,if_pos (by rw[h];simp)]
theorem Tab.empty {t:SetTable}{hs:List Int}(T:Tab t hs) {j:Nat}(h:j∉t.place.toList):t.slot j=.empty:=by
 unfold SetTable.slot
 dsimp only
 have n1:¬ (t.place[below t.place j]? == some j)=true:=λ q=>h ((below_mem T.ris).mp (by simpa using q))
 rw[if_neg n1,if_neg (by rw[T.dum];simp[has])]
theorem Tab.at {t:SetTable}{hs:List Int}(T:Tab t hs) {j:Nat}(h:j∈t.place.toList):∃ (i:Nat) (g:Int),t.place[i]?=some j/\hs[i]?=some g:=by
 obtain⟨i,hi,e⟩:=List.mem_iff_getElem.mp h
 have hi':i<t.place.size:=by simpa using hi
 refine⟨i,hs[i]'(by rw[<- T.len];exact hi'),?_,by simp⟩
 rw[Array.getElem?_eq_getElem hi']
 rw[Array.getElem_toList] at e
 rw[e]
theorem go_spec {t:SetTable}{hs:List Int}(T:Tab t hs) {hashAt:Nat->Int}(hA:∀ (i:Nat) g,hs[i]?=some g->hashAt i=g) (h:Int):∀ (f k:Nat),(∃ e,k<=e/\e<k+f/\(way t.mask h e).j∉t.place.toList)->
  ∃ k1,k<=k1/\(∀ m,k<=m->m<k1->∃ (i:Nat) (g:Int),t.place[i]?=some (way t.mask h m).j/\hs[i]?=some g/\g≠h)/\
   ((way t.mask h k1).j∉t.place.toList/\probe.go t hashAt h f (way t.mask h k)=some (.empty (way t.mask h k1).j none)\/
    ∃ i,t.place[i]?=some (way t.mask h k1).j/\hs[i]?=some h/\probe.go t hashAt h f (way t.mask h k)=some (.candidate (way t.mask h k1).j i (way t.mask h (k1+1))))
 | 0,k,⟨e,h1,h2,_⟩=>by omega
 | f+1,k,⟨e,h1,h2,h3⟩=>by
  by_cases hm:(way t.mask h k).j∈t.place.toList
  ·obtain⟨i,g,p1,p2⟩:=T.at hm
   by_cases hg:g=h
   ·refine⟨k,Nat.le_refl _,λ m a b=>by omega,.inr ⟨i,p1,by rw[<- hg];exact p2,?_⟩⟩
    unfold probe.go
    rw[T.live p1]
    dsimp only
    rw[hA i g p2,if_pos (by simp[hg]),adv_eq]
    rfl
   ·have hne:e≠k:=λ q=>by subst q;exact h3 hm
    obtain⟨k1,q1,q2,q3⟩:=go_spec T hA h f (k+1) ⟨e,by omega,by omega,h3⟩
    have eq:probe.go t hashAt h (f+1) (way t.mask h k)=probe.go t hashAt h f (way t.mask h (k+1)):=by
     conv=>lhs;unfold probe.go
     rw[T.live p1]
     dsimp only
     rw[hA i g p2,if_neg (by simp[hg]),adv_eq]
     rfl
    rw[eq]
    refine⟨k1,by omega,λ m a b=>?_,q3⟩
    rcases Nat.eq_or_lt_of_le a with w | w
    ·subst w;exact⟨i,g,p1,p2,hg⟩
    ·exact q2 m w b
  ·refine⟨k,Nat.le_refl _,λ m a b=>by omega,.inl ⟨hm,?_⟩⟩
   unfold probe.go
   rw[T.empty hm,way_dummy]
theorem nodup_len {xs ys:List Nat}(hx:xs.Nodup) (h:∀ x∈xs,x∈ys):xs.length<=ys.length:=by
 induction xs generalizing ys with
 | nil=>simp
 | cons x xs ih=>
  have h1:=List.nodup_cons.mp hx
  have hxy:=h x List.mem_cons_self
  have:=ih h1.2 (ys:=ys.erase x) λ z hz=>by
   have hne:z≠x:=λ e=>h1.1 (e▸hz)
   exact (List.mem_erase_of_ne hne).mpr (h z (List.mem_cons_of_mem _ hz))
  rw[List.length_erase_of_mem hxy] at this
  have hp:=List.length_pos_of_mem hxy
  simp only[List.length_cons]
  omega
theorem least {P:Nat->Prop}(k:Nat) (h:P k):∃ m,m<=k/\P m/\∀ m'<m,¬ P m':=by
 induction k using Nat.strongRecOn with
 | ind k ih=>
  rcases Classical.em (∃ m',m'<k/\P m') with ⟨m',h1,h2⟩ | q
  ·obtain⟨m,g1,g2⟩:=ih m' h1 h2
   exact⟨m,by omega,g2⟩
  ·exact⟨k,Nat.le_refl _,h,λ m' hm hp=>q ⟨m',hm,hp⟩⟩
theorem free_slot {xs:List Nat}{M:Nat}(h:xs.length<=M):∃ e,e<=M/\e∉xs:=by
 rcases Classical.em (∃ e,e<=M/\e∉xs) with q | q
 ·exact q
 ·have:=nodup_len (xs:=List.range (M+1)) (ys:=xs) List.nodup_range λ e he=>by
   have:=List.mem_range.mp he
   rcases Classical.em (e∈xs) with w | w
   ·exact w
   ·exact absurd ⟨e,by omega,w⟩ q
  simp at this
  omega
def Free (t:SetTable) (h:Int) (j:Nat):Prop:=j∉t.place.toList/\∃ k,(way t.mask h k).j=j/\∀ k'<k,(way t.mask h k').j∈t.place.toList
theorem Tab.first {t:SetTable}{hs:List Int}(T:Tab t hs) (hl:hs.length<=t.mask) (h:Int):∃ K,K<10*(t.mask+15)/\(way t.mask h K).j∉t.place.toList/\∀ k'<K,(way t.mask h k').j∈t.place.toList:=by
 obtain⟨e,e1,e2⟩:=free_slot (xs:=t.place.toList) (M:=t.mask) (by rw[Array.length_toList,T.len];exact hl)
 obtain⟨k,k1,k2⟩:=way_meets t.mask T.mask h e e1
 obtain⟨K,q1,q2,q3⟩:=least (P:=λ n=>(way t.mask h n).j∉t.place.toList) k (by rw[k2];exact e2)
 exact⟨K,by omega,q2,λ k' hk=>Classical.not_not.mp (q3 k' hk)⟩
theorem ris_ins {xs:List Nat}{j p:Nat}(h:Ris xs) (h1:∀ x∈xs.take p,x<j) (h2:∀ x∈xs.drop p,j<x):Ris (xs.take p++j::xs.drop p):=by
 refine List.pairwise_append.mpr ⟨h.sublist (List.take_sublist _ _),List.pairwise_cons.mpr ⟨h2,h.sublist (List.drop_sublist _ _)⟩,λ a ha b hb=>?_⟩
 rcases List.mem_cons.mp hb with e | e
 ·subst e;exact h1 a ha
 ·have:=h1 a ha;have:=h2 b e;omega
theorem ins_get {α:Type}{xs:List α}{p i:Nat}{x y:α}(hp:p<=xs.length) (h:(xs.take p++x::xs.drop p)[i]?=some y):(i=p/\y=x)\/(i<p/\xs[i]?=some y)\/(p<i/\xs[i-1]?=some y):=by
 have hl:(xs.take p).length=p:=by rw[List.length_take];omega
 rcases Nat.lt_trichotomy i p with q | q | q
 ·rw[List.getElem?_append_left (by omega),List.getElem?_take,if_pos q] at h
  exact .inr (.inl ⟨q,h⟩)
 ·subst q
  rw[List.getElem?_append_right (by omega),hl] at h
  simp at h
  exact .inl ⟨rfl,h.symm⟩
 ·rw[List.getElem?_append_right (by omega),hl] at h
  obtain⟨d,hd⟩:∃ d,i-p=d+1:=⟨i-p-1,by omega⟩
  rw[hd] at h
  simp only[List.getElem?_cons_succ,List.getElem?_drop] at h
  refine .inr (.inr ⟨q,?_⟩)
  rw[show i-1=p+d by omega];exact h
theorem Tab.put {t:SetTable}{hs:List Int}(T:Tab t hs) {h:Int}{j:Nat}(F:Free t h j):
  (t.put j).2<=hs.length/\(t.put j).1={ t with place:=insertAt t.place (t.put j).2 j }/\Tab (t.put j).1 (hs.take (t.put j).2++h::hs.drop (t.put j).2):=by
 obtain⟨b1,b2,b3⟩:=below_spec (xs:=t.place) (j:=j) T.ris
 obtain⟨fn,K,k1,k2⟩:=F
 have e2:(t.put j).2=below t.place j:=rfl
 have e1:(t.put j).1={ t with place:=insertAt t.place (t.put j).2 j }:=by
  show ({ t with place:=insertAt t.place (below t.place j) j,dummies:=_ }:SetTable)=_
  rw[if_neg (by rw[T.dum];simp[has]),e2]
 have pl:(insertAt t.place (below t.place j) j).toList=t.place.toList.take (below t.place j)++j::t.place.toList.drop (below t.place j):=toList_insertAt _ _ _
 have old:∀ x∈t.place.toList,x∈(insertAt t.place (below t.place j) j).toList:=λ x hx=>by
  rw[pl]
  have:=List.take_append_drop (below t.place j) t.place.toList
  rw[<- this] at hx
  rcases List.mem_append.mp hx with q | q
  ·exact List.mem_append_left _ q
  ·exact List.mem_append_right _ (List.mem_cons_of_mem _ q)
 rw[e2] at e1 ⊢
 refine⟨by rw[<- T.len];exact b1,e1,?_⟩
 rw[e1]
 refine⟨T.mask,T.dum,?_,?_,?_,?_⟩
 ·show (insertAt t.place (below t.place j) j).size=_
  rw[<- Array.length_toList,pl]
  simp[T.len]
 ·show Ris (insertAt t.place (below t.place j) j).toList
  rw[pl]
  refine ris_ins T.ris (λ x hx=>?_) (λ x hx=>?_)
  ·obtain⟨i,hi,e⟩:=List.mem_iff_getElem.mp hx
   rw[List.length_take] at hi
   rw[List.getElem_take,Array.getElem_toList] at e
   rw[<- e];exact b2 i (by simp at hi;omega) (by omega)
  ·obtain⟨i,hi,e⟩:=List.mem_iff_getElem.mp hx
   rw[List.length_drop] at hi
   rw[List.getElem_drop,Array.getElem_toList] at e
   have h3:=b3 (below t.place j+i) (by simp at hi;omega) (by omega)
   have hm:x∈t.place.toList:=List.mem_of_mem_drop hx
   have hne:x≠j:=λ q=>fn (q▸hm)
   omega
 ·intro x hx
  show x<=t.mask
  have hx:x∈(insertAt t.place (below t.place j) j).toList:=hx
  rw[pl] at hx
  rcases List.mem_append.mp hx with q | q
  ·exact T.top x (List.mem_of_mem_take q)
  ·rcases List.mem_cons.mp q with e | e
   ·subst e;rw[<- k1];exact way_j _ _ _
   ·exact T.top x (List.mem_of_mem_drop e)
 ·intro i g x hg hx
  show ∃ k,(way t.mask g k).j=x/\∀ k'<k,(way t.mask g k').j∈(insertAt t.place (below t.place j) j).toList
  have hx:(insertAt t.place (below t.place j) j)[i]?=some x:=hx
  rw[<- Array.getElem?_toList,pl] at hx
  have hpl:below t.place j<=t.place.toList.length:=by simpa using b1
  have hpl':below t.place j<=hs.length:=by rw[<- T.len];exact b1
  rcases ins_get hpl hx with ⟨c1,c2⟩ | ⟨c1,c2⟩ | ⟨c1,c2⟩ <;> rcases ins_get hpl' hg with ⟨d1,d2⟩ | ⟨d1,d2⟩ | ⟨d1,d2⟩ <;> first
   | omega
   | (subst c2 d2;exact⟨K,k1,λ k' hk=>old _ (k2 k' hk)⟩)
   | (obtain⟨k,g1,g2⟩:=T.rch _ g x d2 (by rw[<- Array.getElem?_toList];exact c2)
      exact⟨k,g1,λ k' hk=>old _ (g2 k' hk)⟩)
end ST
namespace ST
open PySem PySem.SetTable
def Occ (owner:Array (Option Nat)) (j:Nat):Prop:=∃ k,owner[j]?=some (some k)
theorem find_first {P:Nat->Bool}{n k:Nat}(h:(List.range n).find? P=some k):k<n/\P k=true/\∀ k'<k,P k'=false:=by
 obtain⟨h1,as,bs,h2,h3⟩:=List.find?_eq_some_iff_append.mp h
 have hlen:as.length=k:=by
  have e:(List.range n)[as.length]?=some k:=by rw[h2];simp
  have:=(List.getElem?_eq_some_iff.mp e)
  obtain⟨q1,q2⟩:=this
  rw[List.getElem_range] at q2
  exact q2
 have hk:k<n:=by
  have:k∈List.range n:=by rw[h2];simp
  exact List.mem_range.mp this
 refine⟨hk,h1,λ k' hk'=>?_⟩
 have:k'∈as:=by
  have e:(List.range n)[k']?=some k':=List.getElem?_range (by omega)
  rw[h2,List.getElem?_append_left (by omega)] at e
  exact List.mem_of_getElem? e
 have:=h3 k' this
 simpa using this
theorem getD_none {owner:Array (Option Nat)}{j:Nat}(h:((owner.getD j (some 0)).isNone)=true):owner[j]?=some none:=by
 unfold Array.getD at h
 split at h
 ·rename_i hj
  have e:owner[j]=none:=by simpa using h
  rw[Array.getElem?_eq_getElem hj,e]
 ·simp at h
theorem getD_occ {owner:Array (Option Nat)}{j:Nat}(hj:j<owner.size) (h:((owner.getD j (some 0)).isNone)=false):Occ owner j:=by
 unfold Array.getD at h
 rw[dif_pos hj] at h
 cases q:owner[j] with
 | none=>simp[q] at h
 | some k=>exact⟨k,by rw[Array.getElem?_eq_getElem hj,q]⟩
theorem free_spec (M:Nat) (owner:Array (Option Nat)) (hsz:owner.size=M+1) (h:Int):∀ (fuel n kn:Nat),way M h kn=run0 M (leaps M h n).1 (leaps M h n).2->(∀ q<kn,Occ owner (way M h q).j)->
  (∃ n',n<=n'/\n'<n+fuel/\owner[(leaps M h n').1]?=some none)->
  ∃ j q,layClean.free M owner fuel (leaps M h n).1 (leaps M h n).2=some j/\(way M h q).j=j/\owner[j]?=some none/\∀ q'<q,Occ owner (way M h q').j
 | 0,n,kn,_,_,⟨n',h1,h2,_⟩=>by omega
 | fuel+1,n,kn,hk,ho,⟨n',h1,h2,h3⟩=>by
  have hre:runEnd M (leaps M h n).1+1-(leaps M h n).1=runEnd M (leaps M h n).1-(leaps M h n).1+1:=by unfold runEnd;split <;> omega
  have hwalk:∀ m,m<=runEnd M (leaps M h n).1-(leaps M h n).1->(way M h (kn+m)).j=(leaps M h n).1+m:=λ m hm=>by rw[run_walk M _ _ h kn hk m hm]
  unfold layClean.free
  cases hf:(List.range (runEnd M (leaps M h n).1+1-(leaps M h n).1)).find? (λ k=>(owner.getD ((leaps M h n).1+k) (some 0)).isNone) with
  | some k=>
   obtain⟨f1,f2,f3⟩:=find_first hf
   refine⟨_,kn+k,rfl,hwalk k (by omega),getD_none f2,λ q' hq=>?_⟩
   rcases Nat.lt_or_ge q' kn with w | w
   ·exact ho q' w
   ·have e:(way M h q').j=(leaps M h n).1+(q'-kn):=by
     have:=hwalk (q'-kn) (by omega)
     rwa [show kn+(q'-kn)=q' by omega] at this
    have hle:=way_j M h q'
    rw[e] at hle ⊢
    exact getD_occ (by omega) (f3 (q'-kn) (by omega))
  | none=>
   have f3:=List.find?_eq_none.mp hf
   have occ:∀ m,m<=runEnd M (leaps M h n).1-(leaps M h n).1->Occ owner ((leaps M h n).1+m):=λ m hm=>by
    have hle:=way_j M h (kn+m)
    rw[hwalk m hm] at hle
    exact getD_occ (by omega) (Bool.eq_false_iff.mpr (f3 m (List.mem_range.mpr (by omega))))
   have hne:n'≠n:=λ e=>by
    subst e
    obtain⟨k,hk'⟩:=occ 0 (Nat.zero_le _)
    rw[Nat.add_zero] at hk'
    rw[hk'] at h3;cases h3
   dsimp only
   obtain⟨j,q,r1,r2⟩:=free_spec M owner hsz h fuel (n+1) _ (run_next M h n kn hk) (λ q hq=>by
    rcases Nat.lt_or_ge q kn with w | w
    ·exact ho q w
    ·have e:=hwalk (q-kn) (by omega)
     rw[show kn+(q-kn)=q by omega] at e
     rw[e];exact occ _ (by omega)) ⟨n',by omega,by omega,h3⟩
   exact⟨j,q,r1,r2⟩
structure Lay (M:Nat) (hs:List Int) (owner:Array (Option Nat)) (m:Nat):Prop where
 size:owner.size=M+1
 below:∀ (j k:Nat),owner[j]?=some (some k)->k<m
 each:∀ (k:Nat),k<m->∃ (j:Nat),owner[j]?=some (some k)
 once:∀ (i j k:Nat),owner[i]?=some (some k)->owner[j]?=some (some k)->i=j
 rch:∀ (j k:Nat) h,owner[j]?=some (some k)->hs[k]?=some h->∃ q,(way M h q).j=j/\∀ q'<q,Occ owner (way M h q').j
theorem Lay.none {M:Nat}(hM:Mok M) {hs:List Int}{owner:Array (Option Nat)}{m:Nat}(L:Lay M hs owner m) (hm:m<=M):∃ (e:Nat),e<=M/\owner[e]?=some Option.none:=by
 rcases Classical.em (∃ (e:Nat),e<=M/\owner[e]?=some Option.none) with q | q
 ·exact q
 ·exfalso
  have hall:∀ (e:Nat),e<=M->∃ (k:Nat),owner[e]?=some (some k):=λ e he=>by
   have hlt:e<owner.size:=by rw[L.size];omega
   cases w:owner[e] with
   | none=>exact absurd ⟨e,he,by rw[Array.getElem?_eq_getElem hlt,w]⟩ q
   | some k=>exact⟨k,by rw[Array.getElem?_eq_getElem hlt,w]⟩
  have:=nodup_len (xs:=(List.range (M+1)).map λ e=>((owner[e]?).getD Option.none).getD 0) (ys:=List.range m) (by
   refine List.pairwise_map.mpr (List.Pairwise.imp_of_mem ?_ List.nodup_range)
   intro a b ha hb hne e
   refine hne ?_
   obtain⟨k,hk⟩:=hall a (by have:=List.mem_range.mp ha;omega)
   obtain⟨k',hk'⟩:=hall b (by have:=List.mem_range.mp hb;omega)
   rw[hk,hk'] at e
   simp at e
   subst e
   exact L.once a b k hk hk') (λ x hx=>by
   obtain⟨e,he,rfl⟩:=List.mem_map.mp hx
   obtain⟨k,hk⟩:=hall e (by have:=List.mem_range.mp he;omega)
   rw[hk]
   exact List.mem_range.mpr (L.below e k hk))
  simp at this
  omega
theorem set_in {α:Type}{xs:Array α}{j i:Nat}{a b:α}(h:(xs.setIfInBounds j a)[i]?=some b):(i=j/\b=a)\/(i≠j/\xs[i]?=some b):=by
 rw[Array.getElem?_setIfInBounds] at h
 by_cases e:j=i
 ·subst e
  rw[if_pos rfl] at h
  split at h
  ·cases h;exact .inl ⟨rfl,rfl⟩
  ·cases h
 ·rw[if_neg e] at h;exact .inr ⟨λ q=>e q.symm,h⟩
theorem Lay.step {M:Nat}(hM:Mok M) {hs:List Int}{owner:Array (Option Nat)}{m:Nat}{h:Int}(L:Lay M hs owner m) (hm:m<=M) (hh:hs[m]?=some h):
  ∃ j,layClean.free M owner (turns M) (bits h%(M+1)) (bits h)=some j/\Lay M hs (owner.setIfInBounds j (some m)) (m+1):=by
 obtain⟨e,e1,e2⟩:=L.none hM hm
 obtain⟨n',n1,n2⟩:=leaps_meets M hM h e e1
 obtain⟨j,q,r1,r2,r3,r4⟩:=free_spec M owner L.size h (turns M) 0 0 rfl (λ q hq=>by omega) ⟨n',by omega,by unfold turns;omega,by rw[n2];exact e2⟩
 have hj:j<owner.size:=(Array.getElem?_eq_some_iff.mp r3).1
 have keep:∀ x,Occ owner x->Occ (owner.setIfInBounds j (some m)) x:=λ x ⟨k,hk⟩=>by
  have hne:j≠x:=λ w=>by subst w;rw[r3] at hk;cases hk
  exact⟨k,by rw[Array.getElem?_setIfInBounds,if_neg hne];exact hk⟩
 have self:(owner.setIfInBounds j (some m))[j]?=some (some m):=by rw[Array.getElem?_setIfInBounds,if_pos rfl,if_pos hj]
 refine⟨j,r1,⟨by simp[L.size],λ x k hx=>?_,λ k hk=>?_,λ x y k hx hy=>?_,λ x k g hx hg=>?_⟩⟩
 ·rcases set_in hx with ⟨_,w⟩ | ⟨_,w⟩
  ·cases w;omega
  ·have:=L.below x k w;omega
 ·rcases Nat.lt_or_ge k m with w | w
  ·obtain⟨x,hx⟩:=L.each k w
   have hne:j≠x:=λ w=>by subst w;rw[r3] at hx;cases hx
   exact⟨x,by rw[Array.getElem?_setIfInBounds,if_neg hne];exact hx⟩
  ·have:k=m:=by omega
   subst this;exact⟨j,self⟩
 ·rcases set_in hx with ⟨w1,w⟩ | ⟨w1,w⟩ <;> rcases set_in hy with ⟨v1,v⟩ | ⟨v1,v⟩
  ·omega
  ·cases w;have:=L.below y _ v;omega
  ·cases v;have:=L.below x _ w;omega
  ·exact L.once x y k w v
 ·rcases set_in hx with ⟨w1,w⟩ | ⟨w1,w⟩
  ·cases w
   rw[hh] at hg;cases hg
   subst w1
   exact⟨q,r2,λ q' hq=>keep _ (r4 q' hq)⟩
  ·obtain⟨q,g1,g2⟩:=L.rch x k g w hg
   exact⟨q,g1,λ q' hq=>keep _ (g2 q' hq)⟩
theorem lay_fold {M:Nat}(hM:Mok M) {hs:List Int}(hl:hs.length<=M+1):∀ (rest:List Int) (owner:Array (Option Nat)) (m:Nat),m<=hs.length->hs.drop m=rest->Lay M hs owner m->
  ∃ owner',rest.foldl (λ acc h=>do
   let (owner,k) <- acc
   let j <- layClean.free M owner (turns M) (bits h%(M+1)) (bits h)
   pure (owner.setIfInBounds j (some k),k+1)) (some (owner,m))=some (owner',hs.length)/\Lay M hs owner' hs.length
 | [],owner,m,hl2,hd,L=>by
  have hm:hs.length<=m:=List.drop_eq_nil_iff.mp hd
  have e:m=hs.length:=by omega
  subst e;exact⟨owner,rfl,L⟩
 | h::rest,owner,m,hl2,hd,L=>by
  have hm:hs[m]?=some h:=by
   have:=congrArg (λ l=>l[0]?) hd
   simpa using this
  have hlt:m<hs.length:=(List.getElem?_eq_some_iff.mp hm).1
  obtain⟨j,j1,j2⟩:=L.step hM (by omega) hm
  have hd':hs.drop (m+1)=rest:=by
   have:=congrArg List.tail hd
   simpa using this
  obtain⟨o',h1,h2⟩:=lay_fold hM hl rest _ (m+1) (by omega) hd' j2
  refine⟨o',?_,h2⟩
  rw[List.foldl_cons,<- h1]
  show _=_
  congr 1
  show ((layClean.free M owner (turns M) (bits h%(M+1)) (bits h)).bind λ j=>some (owner.setIfInBounds j (some m),m+1))=_
  rw[j1];rfl
theorem lay_start (M:Nat) (hs:List Int):Lay M hs (Array.replicate (M+1) Option.none) 0:=by
 have no:∀ (j k:Nat),(Array.replicate (M+1) (Option.none:Option Nat))[j]?≠some (some k):=λ j k h=>by
  rw[Array.getElem?_replicate] at h
  split at h <;> cases h
 exact⟨by simp,λ j k h=>absurd h (no j k),λ k hk=>by omega,λ i j k h=>absurd h (no i k),λ j k h e=>absurd e (no j k)⟩
theorem layClean_spec {M:Nat}(hM:Mok M) (hashes:Array Int) (hl:hashes.size<=M+1):∃ owner,layClean M hashes=some owner/\Lay M hashes.toList owner hashes.size:=by
 obtain⟨o,h1,h2⟩:=lay_fold hM (hs:=hashes.toList) (by simpa using hl) hashes.toList _ 0 (Nat.zero_le _) (by simp) (lay_start M _)
 refine⟨o,?_,by simpa using h2⟩
 unfold layClean
 rw[<- Array.foldl_toList,h1]
 rfl
noncomputable def lives (M:Nat) (owner:Array (Option Nat)):List (Nat×Nat):=(List.range (M+1)).filterMap λ j=>(owner.getD j Option.none).map (j,·)
theorem getD_some {owner:Array (Option Nat)}{j k:Nat}:owner.getD j Option.none=some k↔owner[j]?=some (some k):=by
 unfold Array.getD
 split
 ·rename_i h
  rw[Array.getElem?_eq_getElem h]
  simp
 ·rename_i h
  rw[Array.getElem?_eq_none (by omega)]
  simp
theorem lives_mem {M:Nat}{owner:Array (Option Nat)}(hs:owner.size=M+1) {j k:Nat}:(j,k)∈lives M owner↔owner[j]?=some (some k):=by
 unfold lives
 rw[List.mem_filterMap]
 constructor
 ·rintro⟨x,hx,e⟩
  obtain⟨y,e1,e2⟩:=Option.map_eq_some_iff.mp e
  cases e2
  exact getD_some.mp e1
 ·intro h
  have hj:=(Array.getElem?_eq_some_iff.mp h).1
  exact⟨j,List.mem_range.mpr (by omega),by rw[getD_some.mpr h];rfl⟩
theorem lives_ris (M:Nat) (owner:Array (Option Nat)):(lives M owner).Pairwise λ a b=>a.1<b.1:=by
 unfold lives
 rw[List.pairwise_filterMap]
 refine List.Pairwise.imp ?_ List.pairwise_lt_range
 intro a b hab x hx y hy
 obtain⟨_,_,e1⟩:=Option.map_eq_some_iff.mp hx
 obtain⟨_,_,e2⟩:=Option.map_eq_some_iff.mp hy
 subst e1 e2
 exact hab
theorem laid_spec {M:Nat}(hM:Mok M) (finger moves:Nat) (led plain:Bool) (hashes:Array Int) (hl:hashes.size<=M+1):
  ∃ t order,laid M finger moves led plain hashes=some (t,order)/\t.mask=M/\t.finger=finger/\t.led=led/\t.plain=plain/\order.toList.Perm (List.range hashes.size)/\Tab t (order.toList.map λ k=>hashes.toList.getD k 0):=by
 obtain⟨owner,h1,L⟩:=layClean_spec hM hashes hl
 refine⟨_,_,by unfold laid;rw[h1];rfl,rfl,rfl,rfl,rfl,?_,?_⟩
 ·show ((lives M owner).map (·.2)).toArray.toList.Perm _
  rw[List.toList_toArray]
  refine (List.perm_ext_iff_of_nodup ?_ List.nodup_range).mpr λ k=>?_
  ·refine List.pairwise_map.mpr (List.Pairwise.imp_of_mem ?_ (lives_ris M owner))
   intro a b ha hb hab e
   have h2:=(lives_mem L.size (j:=a.1) (k:=a.2)).mp ha
   have h3:=(lives_mem L.size (j:=b.1) (k:=b.2)).mp hb
   have e:a.2=b.2:=e
   rw[e] at h2
   have:=L.once _ _ _ h2 h3
   omega
  ·rw[List.mem_range]
   constructor
   ·intro h
    obtain⟨⟨j,k'⟩,h2,rfl⟩:=List.mem_map.mp h
    exact L.below j _ ((lives_mem L.size).mp h2)
   ·intro h
    obtain⟨j,hj⟩:=L.each k h
    exact List.mem_map.mpr ⟨(j,k),(lives_mem L.size).mpr hj,rfl⟩
 ·have pl:∀ x,x∈(lives M owner).map (·.1)↔Occ owner x:=λ x=>by
   constructor
   ·intro h
    obtain⟨⟨j,k⟩,h2,rfl⟩:=List.mem_map.mp h
    exact⟨k,(lives_mem L.size).mp h2⟩
   ·rintro⟨k,hk⟩
    exact List.mem_map.mpr ⟨(x,k),(lives_mem L.size).mpr hk,rfl⟩
  refine⟨hM,rfl,?_,?_,?_,?_⟩
  ·show ((lives M owner).map (·.1)).toArray.size=(((lives M owner).map (·.2)).toArray.toList.map _).length
   simp
  ·show Ris ((lives M owner).map (·.1)).toArray.toList
   rw[List.toList_toArray]
   exact List.pairwise_map.mpr (lives_ris M owner)
  ·intro x hx
   show x<=M
   have hx:x∈((lives M owner).map (·.1)).toArray.toList:=hx
   rw[List.toList_toArray] at hx
   obtain⟨k,hk⟩:=(pl x).mp hx
   have:=(Array.getElem?_eq_some_iff.mp hk).1
   rw[L.size] at this
   omega
  ·intro i g x hg hx
   have hx:((lives M owner).map (·.1)).toArray[i]?=some x:=hx
   have hg:(((lives M owner).map (·.2)).toArray.toList.map λ k=>hashes.toList.getD k 0)[i]?=some g:=hg
   rw[List.getElem?_toArray,List.getElem?_map] at hx
   rw[List.toList_toArray,List.getElem?_map,List.getElem?_map] at hg
   obtain⟨p,p1,p2⟩:=Option.map_eq_some_iff.mp hx
   rw[p1] at hg
   simp only[Option.map_some,Option.some.injEq] at hg
   obtain⟨j,k⟩:=p
   cases p2
   have hm:=(lives_mem L.size).mp (List.mem_of_getElem? p1)
   have hk:=L.below _ _ hm
   obtain⟨q,q1,q2⟩:=L.rch _ k g hm (by rw[<- hg];simp[hk])
   refine⟨q,q1,λ q' hq=>?_⟩
   show _∈((lives M owner).map (·.1)).toArray.toList
   rw[List.toList_toArray]
   exact (pl _).mpr (q2 q' hq)
end ST
namespace ST
open PySem PySem.SetTable
section
variable {prog:Program}{w:World}{A:Around}{E:Value->Shared->Prop}{s:Shared}
abbrev rk (prog:Program) (w:World):HeapKind prog w (List Int):=tupleKind (intKind prog w)
theorem items_int {ks:List Int}{vs:List Value}(h:ItemsAre (intKind prog w) ks vs):∀ v∈vs,∃ n t,v=.int n t:=by
 induction h with
 | nil=>intro v hv;cases hv
 | cons h1 _ ih=>
  intro v hv
  rcases List.mem_cons.mp hv with rfl | hv
  ·obtain⟨t,e⟩:=Value.isInt_shape h1
   exact⟨_,t,e⟩
  ·exact ih v hv
theorem noClass {ks:List Int}{a:Addr}{Q:Bool->Shared->Prop}(hk:IsTupleKey (intKind prog w) s.heap ks a) (h:Q false s):wpAny (model prog w) A (ofAClassStatement 8 (.ref a)) Q E s:=by
 have hT:=hk.typeIs
 obtain⟨o,items,n,ho,_,hd,hi⟩:=hk
 unfold ofAClassStatement
 refine wpAny_bind (wpAny_typeOf hT ?_)
 show wpAny _ _ (pure true >>= _) _ _ s
 refine wpAny_bind (wpAny_pure ?_)
 simp only[Bool.not_true,Bool.false_eq_true,if_false]
 refine wpAny_bind (wpAny_seqItems ho hd ?_)
 dsimp only
 refine wpAny_bind ?_
 show wpAny _ _ (forIn items _ _) _ _ s
 rw[<- Array.forIn_toList]
 refine wpAny_forIn_list _ (λ rest r s'=>r.1=none/\s'=s/\∀ v∈rest,∃ n t,v=.int n t) _ ?_ ?_ _ _ ⟨rfl,rfl,items_int hi⟩
 ·rintro v rest r s' ⟨hr,rfl,hall⟩
  obtain⟨m,t,rfl⟩:=hall v List.mem_cons_self
  show wpAny _ _ (pure false >>= _) _ _ _
  refine wpAny_bind (wpAny_pure ?_)
  simp only[Bool.false_eq_true,if_false]
  exact wpAny_pure ⟨rfl,rfl,λ u hu=>hall u (List.mem_cons_of_mem _ hu)⟩
 ·rintro⟨r1,r2⟩ s' ⟨hr,rfl,_⟩
  simp only at hr
  subst hr
  exact wpAny_pure h
theorem hashPlain {ks:List Int}{a:Addr}{Q:Bool->Shared->Prop}(hk:IsTupleKey (intKind prog w) s.heap ks a) (h:Q true s):wpAny (model prog w) A (hashByValue 8 (.ref a)) Q E s:=by
 have hT:=hk.typeIs
 obtain⟨o,items,n,ho,_,hd,hi⟩:=hk
 unfold hashByValue
 refine wpAny_bind (wpAny_specialOf hT F.slot_tuple_hash.lookup ?_)
 dsimp only
 refine wpAny_bind (wpAny_seqItems ho hd ?_)
 refine wpAny_bind ?_
 show wpAny _ _ (forIn items _ _) _ _ s
 rw[<- Array.forIn_toList]
 refine wpAny_forIn_list _ (λ rest r s'=>r.1=none/\s'=s/\∀ v∈rest,∃ n t,v=.int n t) _ ?_ ?_ _ _ ⟨rfl,rfl,items_int hi⟩
 ·rintro v rest r s' ⟨hr,rfl,hall⟩
  obtain⟨m,t,rfl⟩:=hall v List.mem_cons_self
  show wpAny _ _ (pure true >>= _) _ _ _
  refine wpAny_bind (wpAny_pure ?_)
  simp only[Bool.not_true,Bool.false_eq_true,if_false]
  exact wpAny_pure ⟨rfl,rfl,λ u hu=>hall u (List.mem_cons_of_mem _ hu)⟩
 ·rintro⟨r1,r2⟩ s' ⟨hr,rfl,_⟩
  simp only at hr
  subst hr
  exact wpAny_pure h
theorem unseen {ks:List Int}{b:Addr}{Q:Bool->Shared->Prop}(hk:IsTupleKey (intKind prog w) s.heap ks b) (l:List Value) (hl:∀ v∈l,∃ k c,v=.ref c/\IsTupleKey (intKind prog w) s.heap k c) (h:Q false s):
  wpAny (model prog w) A (searchCouldBeSeen (.ref b) l) Q E s:=by
 unfold searchCouldBeSeen
 refine wpAny_bind ?_
 refine wpAny_forIn_list _ (λ rest r s'=>r.1=none/\s'=s/\∀ v∈rest,∃ k c,v=.ref c/\IsTupleKey (intKind prog w) s.heap k c) _ ?_ ?_ _ _ ⟨rfl,rfl,hl⟩
 ·rintro v rest r s' ⟨hr,rfl,hall⟩
  obtain⟨k,c,rfl,hc⟩:=hall v List.mem_cons_self
  have rest':∀ u∈rest,∃ k c,u=Value.ref c/\IsTupleKey (intKind prog w) s'.heap k c:=λ u hu=>hall u (List.mem_cons_of_mem _ hu)
  dsimp only
  by_cases e:(b == c||(carriedByValue (.ref b)&&carriedByValue (.ref c)))=true
  ·rw[if_pos e]
   exact wpAny_pure ⟨rfl,rfl,rest'⟩
  ·rw[if_neg e]
   refine wpAny_bind ((rk prog w).quiet hk ?_)
   simp only[Bool.not_true,Bool.false_eq_true,if_false]
   refine wpAny_bind ((rk prog w).quiet hc ?_)
   simp only[Bool.not_true,Bool.false_eq_true,if_false]
   refine wpAny_bind (noClass hk ?_)
   simp only[Bool.false_eq_true,if_false]
   refine wpAny_bind (noClass hc ?_)
   simp only[Bool.false_eq_true,if_false]
   exact wpAny_pure ⟨rfl,rfl,rest'⟩
 ·rintro⟨r1,r2⟩ s' ⟨hr,rfl,_⟩
  simp only at hr
  subst hr
  exact wpAny_pure h
structure Els (h:Heap) (es:Array (Int×Value)) (t:SetTable) (xs:List (List Int×Addr)):Prop where
 es:es.toList=xs.map λ e=>((rk prog w).hash e.1,Value.ref e.2)
 is:∀ e∈xs,IsTupleKey (intKind prog w) h e.1 e.2
 tab:Tab t (xs.map λ e=>(rk prog w).hash e.1)
 few:xs.length<=t.mask
theorem Els.fits {h:Heap}{es:Array (Int×Value)}{t:SetTable}{xs:List (List Int×Addr)}(X:Els (prog:=prog) (w:=w) h es t xs):t.fits es.size=true:=by
 have hl:es.size=xs.length:=by have:=congrArg List.length X.es;simpa using this
 have h1:=X.tab.len
 rw[List.length_map] at h1
 have h2:=X.few
 unfold SetTable.fits SetTable.fill
 rw[X.tab.dum,hl,h1]
 simp
 omega
theorem Els.at {h:Heap}{es:Array (Int×Value)}{t:SetTable}{xs:List (List Int×Addr)}(X:Els (prog:=prog) (w:=w) h es t xs) {i:Nat}{e:List Int×Addr}(he:xs[i]?=some e):es[i]?=some ((rk prog w).hash e.1,Value.ref e.2):=by
 rw[<- Array.getElem?_toList,X.es,List.getElem?_map,he];rfl
theorem search_spec {a:Addr}{o:Obj}{es:Array (Int×Value)}{ep:Nat}{t:SetTable}{xs:List (List Int×Addr)}{key:List Int}{b:Addr}{Q:SetFound->Shared->Prop}
  (hu:A.units<cLine) (ho:s.heap.get? a=some o) (hd:o.data=.set es ep t) (X:Els (prog:=prog) (w:=w) s.heap es t xs) (hb:IsTupleKey (intKind prog w) s.heap key b)
  (h1:key∈xs.map (·.1)->Q (.there none) s) (h2:key∉xs.map (·.1)->∀ j,Free t ((rk prog w).hash key) j->Q (.free j false) s):
  ∀ (fuel k:Nat) (stand:Option Probe),stand.getD (t.probeStart ((rk prog w).hash key))=way t.mask ((rk prog w).hash key) k->(∀ m<k,∃ (i:Nat) (e:List Int×Addr),t.place[i]?=some (way t.mask ((rk prog w).hash key) m).j/\xs[i]?=some e/\e.1≠key)->(∃ K,k<=K/\K<k+fuel/\K<10*(t.mask+15)/\(way t.mask ((rk prog w).hash key) K).j∉t.place.toList/\∀ m<K,(way t.mask ((rk prog w).hash key) m).j∈t.place.toList)->
   wpAny (model prog w) A (setSearchFrom a (.ref b) ((rk prog w).hash key) true fuel stand) Q E s
 | 0,k,stand,_,_,⟨K,q1,q2,_⟩=>by omega
 | fuel+1,k,stand,hst,hpast,⟨K,q1,q2,q3,q4,q5⟩=>by
  have T:=X.tab
  have hodd:t.gaveWay=false:=by
   unfold SetTable.gaveWay
   rcases T.mask with e | e | e <;> rw[e] <;> rfl
  unfold setSearchFrom
  refine wpAny_bind (wpAny_setState_of ho hd X.fits ?_)
  dsimp only
  rw[hodd]
  simp only[Bool.false_eq_true,if_false]
  have hA:∀ (i:Nat) g,(xs.map λ e=>(rk prog w).hash e.1)[i]?=some g->((es[i]?).map (·.1)).getD 0=g:=λ i g hg=>by
   rw[List.getElem?_map] at hg
   obtain⟨e,e1,e2⟩:=Option.map_eq_some_iff.mp hg
   rw[X.at e1];exact e2
  obtain⟨k1,g1,g2,g3⟩:=go_spec T (hashAt:=λ i=>((es[i]?).map (·.1)).getD 0) hA ((rk prog w).hash key) (10*turns t.mask) k ⟨K,q1,by unfold turns;omega,q4⟩
  rw[hst]
  have look:∀ (i:Nat) g,(xs.map λ e=>(rk prog w).hash e.1)[i]?=some g->∃ e,xs[i]?=some e/\(rk prog w).hash e.1=g:=λ i g hg=>by
   rw[List.getElem?_map] at hg
   obtain⟨e,e1,e2⟩:=Option.map_eq_some_iff.mp hg
   exact⟨e,e1,e2⟩
  have hpast':∀ m<k1,∃ (i:Nat) (e:List Int×Addr),t.place[i]?=some (way t.mask ((rk prog w).hash key) m).j/\xs[i]?=some e/\e.1≠key:=λ m hm=>by
   rcases Nat.lt_or_ge m k with c | c
   ·exact hpast m c
   ·obtain⟨i,g,p1,p2,p3⟩:=g2 m c hm
    obtain⟨e,e1,e2⟩:=look i g p2
    exact⟨i,e,p1,e1,λ q=>p3 (by rw[<- e2,q])⟩
  rcases g3 with ⟨n1,n2⟩ | ⟨i,n1,n2,n3⟩
  ·have n2':t.probe _ ((rk prog w).hash key) (way t.mask ((rk prog w).hash key) k)=_:=n2
   simp only[SetTable.probe] at n2' ⊢
   erw [n2]
   dsimp only
   refine wpAny_pure (h2 (λ hm=>?_) _ ⟨n1,k1,rfl,λ m hm=>?_⟩)
   ·obtain⟨e,he,ek⟩:=List.mem_map.mp hm
    obtain⟨i,hi⟩:=List.mem_iff_getElem?.mp he
    have hh:(xs.map λ e=>(rk prog w).hash e.1)[i]?=some ((rk prog w).hash key):=by rw[List.getElem?_map,hi,<- ek];rfl
    have hil:i<t.place.size:=by rw[T.len];exact (List.getElem?_eq_some_iff.mp hh).1
    obtain⟨kk,w1,w2⟩:=T.rch i _ _ hh (Array.getElem?_eq_getElem hil)
    rcases Nat.lt_trichotomy kk k1 with c | c | c
    ·obtain⟨i',e',p1,p2,p3⟩:=hpast' kk c
     rw[w1] at p1
     have:i=i':=by
      rw[<- below_at T.ris (Array.getElem?_eq_getElem hil),<- below_at T.ris p1]
     subst this
     rw[hi] at p2;cases p2
     exact p3 ek
    ·subst c;rw[w1] at n1;exact n1 (by simp)
    ·exact n1 (w2 k1 c)
   ·obtain⟨i',e',p1,_⟩:=hpast' m hm
    exact List.mem_of_getElem? (by rw[Array.getElem?_toList];exact p1)
  ·simp only[SetTable.probe]
   erw [n3]
   dsimp only
   obtain⟨e,e1,e2⟩:=look i _ n2
   have hes:=X.at e1
   have hey:=X.is e (List.mem_of_getElem? e1)
   have main:wpAny (model prog w) A (holding [Value.ref e.2] (eqBool (.ref e.2) (.ref b)) >>= λ equal=>setState a >>= λ x=>match x with
     | (es',_,t')=>if (true&&equal)=true then pure (SetFound.there none) else
      match t'.sameMemory t.moves t.mask with
      | some same=>
       have jp:=λ still=>match still with
        | none=>do
         rule "set.search.anew"
         setSearchFrom a (.ref b) ((rk prog w).hash key) true fuel none
        | some i'=>if equal=true then pure (SetFound.there (some i')) else setSearchFrom a (.ref b) ((rk prog w).hash key) true fuel (some (way t.mask ((rk prog w).hash key) (k1+1)))
       match if same=true then t'.slot (way t.mask ((rk prog w).hash key) k1).j else Slot.empty with
       | .live i'=>match es'[i']? with
        | some (_,y')=>do
         let r <- isSame y' (.ref e.2)
         let still <- pure (if r=true then some i' else none)
         jp still
        | none=>do
         let still <- pure none
         jp still
       | _=>do
        let still <- pure none
        jp still
      | _=>unsupported "set.changed-during-lookup:is-the-new-block-at-the-old-address") Q E s:=by
    refine wpAny_bind (wpAny_holding ((rk prog w).eqBool hu hey hb ?_))
    refine wpAny_bind (wpAny_setState_of ho hd X.fits ?_)
    dsimp only
    by_cases hk:e.1=key
    ·rw[decide_eq_true hk]
     simp only[Bool.and_self,if_true]
     exact wpAny_pure (h1 (List.mem_map.mpr ⟨e,List.mem_of_getElem? e1,hk⟩))
    ·rw[decide_eq_false hk]
     simp only[Bool.and_false,Bool.false_eq_true,if_false]
     have sm:t.sameMemory t.moves t.mask=some true:=by unfold SetTable.sameMemory;simp
     rw[sm]
     dsimp only
     rw[if_pos rfl,T.live n1]
     dsimp only
     rw[hes]
     dsimp only
     refine wpAny_bind (wpAny_isSame_ref_self ?_)
     refine wpAny_bind (wpAny_pure ?_)
     rw[if_pos rfl]
     dsimp only
     have hKk:k1<K:=by
      rcases Nat.lt_trichotomy K k1 with c | c | c
      ·obtain⟨i',e',p1,_⟩:=hpast' K c
       exact absurd (List.mem_of_getElem? (by rw[Array.getElem?_toList];exact p1)) q4
      ·subst c
       exact absurd (List.mem_of_getElem? (by rw[Array.getElem?_toList];exact n1)) q4
      ·exact c
     refine search_spec hu ho hd X hb h1 h2 fuel (k1+1) _ rfl (λ m hm=>?_) ⟨K,by omega,by omega,q3,q4,q5⟩
     rcases Nat.lt_or_ge m k1 with c | c
     ·exact hpast' m c
     ·have:m=k1:=by omega
      subst this
      exact⟨i,e,n1,e1,hk⟩
   rw[hes]
   by_cases hl:t.led=true
   ·rw[hl]
    simp only[Bool.not_true,Bool.false_eq_true,if_false]
    exact main
   ·have hl':t.led=false:=by simpa using hl
    rw[hl']
    simp only[Bool.not_false,if_true]
    refine wpAny_bind (unseen hb _ (λ v hv=>?_) ?_)
    ·obtain⟨p,hp,rfl⟩:=List.mem_map.mp hv
     rw[Array.toList_filter,List.mem_filter,X.es] at hp
     obtain⟨⟨e',he',rfl⟩,_⟩:=(And.intro (List.mem_map.mp hp.1) hp.2)
     exact⟨e'.1,e'.2,rfl,X.is e' he'⟩
    ·simp only[Bool.false_eq_true,if_false]
     exact main
end
end ST
namespace ST
open PySem PySem.SetTable
section
variable {prog:Program}{w:World}{A:Around}{E:Value->Shared->Prop}{s:Shared}
structure SetR (prog:Program) (w:World) (h:Heap) (a:Addr) (xs:List (List Int×Addr)) (led:Bool):Prop where
 ex:∃ es ep t,h.get? a=some { cls:=.type "set",dict:=none,data:=.set es ep t }/\Els (prog:=prog) (w:=w) h es t xs/\t.led=led/\t.plain=true/\xs.length*5<t.mask*3
 nd:(xs.map (·.1)).Nodup
theorem tup_keep {h h':Heap}{ks:List Int}{b a:Addr}{es:Array (Int×Value)}{ep:Nat}{t:SetTable}{c:Value}{d:Option Addr}{sl:Array (Option Value)}(x:IsTupleKey (intKind prog w) h ks b) (ho:h.get? a=some { cls:=c,dict:=d,data:=.set es ep t,slots:=sl }) (hs:Heap.SameBut a h h'):IsTupleKey (intKind prog w) h' ks b:=by
 obtain⟨o',items,n,ho',hc,hd',hi⟩:=x
 have hne:b≠a:=by
  rintro rfl
  obtain rfl:o'=_:=Option.some.inj (ho'.symm.trans ho)
  cases hd'
 exact⟨o',items,n,(hs.2 b hne).trans ho',hc,hd',hi⟩
theorem put_get {h:Heap}{a:Addr}{es es':Array (Int×Value)}{ep:Nat}{t t':SetTable}(ho:h.get? a=some { cls:=.type "set",dict:=none,data:=.set es ep t }):(h.update a (Obj.putSet es' t')).get? a=some { cls:=.type "set",dict:=none,data:=.set es' (ep+1) t' }:=by
 have e:Obj.putSet es' t' { cls:=.type "set",dict:=none,data:=.set es ep t }={ cls:=.type "set",dict:=none,data:=.set es' (ep+1) t' }:=putSet_of es' t' rfl
 have:=Heap.get?_update_self (Obj.putSet es' t') ho (by rw[e];rfl)
 rw[e] at this;exact this
theorem pick_map {α β:Type}(l:List α) (f:α->β) (d:β):∀ (order:List Nat),(∀ k∈order,k<l.length)->order.map (λ k=>(l.map f).getD k d)=(order.filterMap λ k=>l[k]?).map f
 | [],_=>rfl
 | k::order,h=>by
  have hk:=h k List.mem_cons_self
  have ih:=pick_map l f d order λ j hj=>h j (List.mem_cons_of_mem _ hj)
  rw[List.map_cons,List.filterMap_cons,List.getElem?_eq_getElem hk]
  dsimp only
  rw[List.map_cons,ih]
  congr 1
  simp[hk]
theorem relay_spec {a:Addr}{es:Array (Int×Value)}{ep:Nat}{t:SetTable}{xs:List (List Int×Addr)}{led:Bool}{wanted M:Nat}{Q:Unit->Shared->Prop}
  (ho:s.heap.get? a=some { cls:=.type "set",dict:=none,data:=.set es ep t }) (X:Els (prog:=prog) (w:=w) s.heap es t xs) (hled:t.led=led) (hpl:t.plain=true) (hM:Mok M) (hw:sizeAbove wanted=M+1) (hfew:xs.length*5<M*3) (hnd:(xs.map (·.1)).Nodup)
  (h:∀ h' xs',Heap.SameBut a s.heap h'->SetR prog w h' a xs' led->xs'.Perm xs->Q () { s with heap:=h' }):wpAny (model prog w) A (setRelay a wanted) Q E s:=by
 have hlen:es.size=xs.length:=by have:=congrArg List.length X.es;simpa using this
 have hhs:(es.map (·.1)).toList=xs.map λ e=>(rk prog w).hash e.1:=by rw[Array.toList_map,X.es,List.map_map];rfl
 have hsz:(es.map (·.1)).size=xs.length:=by rw[Array.size_map,hlen]
 obtain⟨t',order,h1,h2,h3,h4,h5,h6,h7⟩:=laid_spec hM t.finger (t.movedTo M) t.led t.plain (es.map (·.1)) (by rw[hsz];omega)
 rw[hsz] at h6
 have hlt:∀ k∈order.toList,k<xs.length:=λ k hk=>by simpa using h6.mem_iff.mp hk
 unfold setRelay
 refine wpAny_bind (wpAny_setState_of ho rfl X.fits ?_)
 dsimp only
 rw[if_neg (by rw[hw];rcases hM with e | e | e <;> rw[e] <;> decide)]
 have hr:t.relaid (es.map (·.1)) wanted=some (t',order):=by
  unfold SetTable.relaid
  rw[hw,Nat.add_sub_cancel];exact h1
 rw[hr]
 have hes':(order.filterMap (es[·]?)).toList=(order.toList.filterMap λ k=>xs[k]?).map λ e=>((rk prog w).hash e.1,Value.ref e.2):=by
  rw[Array.toList_filterMap,List.map_filterMap]
  congr 1
  funext k
  rw[<- Array.getElem?_toList,X.es,List.getElem?_map]
 have hperm:(order.toList.filterMap λ k=>xs[k]?).Perm xs:=(h6.filterMap _).trans (by rw[List.filterMap_getElem?_range_length])
 have hsz':(order.filterMap (es[·]?)).size=es.size:=by
  rw[<- Array.length_toList,hes',List.length_map,hperm.length_eq,hlen]
 refine wpAny_bind (m:=_) ?_
 show wpAny _ _ (do
  let some (t,order):=some (t',order) | unsupported "internal:set-table-without-room"
  let es':=order.filterMap (es[·]?)
  if es'.size != es.size then unsupported "internal:set-table-lost-an-element"
  pure (es',t)) _ _ _
 dsimp only
 rw[if_neg (by rw[hsz'];simp)]
 refine wpAny_pure ?_
 have hsl:(order.filterMap (es[·]?)).size<=sizeLine:=by
  rw[hsz',hlen]
  have:sizeLine=16777216:=rfl
  rcases hM with e | e | e <;> subst e <;> omega
 refine wpAny_storeSet_of ho rfl ?_ hsl
 have sb:=Heap.SameBut.update s.heap a (Obj.putSet (order.filterMap (es[·]?)) t')
 refine h _ _ sb ⟨⟨_,ep+1,t',put_get ho,⟨hes',λ e he=>tup_keep (X.is e (hperm.mem_iff.mp he)) ho sb,?_,?_⟩,by rw[h4];exact hled,by rw[h5];exact hpl,?_⟩,(hperm.map _).nodup_iff.mpr hnd⟩ hperm
 ·rw[<- pick_map xs (λ e=>(rk prog w).hash e.1) 0 order.toList hlt,<- hhs]
  exact h7
 ·rw[hperm.length_eq,h2];omega
 ·rw[hperm.length_eq,h2];exact hfew
theorem sizes (n:Nat) (M:Nat) (hM:Mok M) (h1:n*5<M*3) (h2:M*3<=(n+1)*5) (hn:n<70):∃ M',Mok M'/\sizeAbove (grown (n+1))=M' + 1/\(n+1)*5<M'*3:=by
 rcases hM with e | e | e <;> subst e
 ·have:n=4:=by omega
  subst this;exact⟨31,.inr (.inl rfl),by decide +kernel,by omega⟩
 ·have:n=18:=by omega
  subst this;exact⟨127,.inr (.inr rfl),by decide +kernel,by omega⟩
 ·omega
theorem add_spec {a:Addr}{xs:List (List Int×Addr)}{key:List Int}{b:Addr}{led:Bool}{Q:Bool->Shared->Prop}(hu:A.units<cLine) (S:SetR prog w s.heap a xs led) (hb:IsTupleKey (intKind prog w) s.heap key b) (hn:xs.length<70)
  (h:∀ h' xs' r,Heap.SameBut a s.heap h'->SetR prog w h' a xs' led->(key∈xs.map (·.1)/\xs'=xs\/key∉xs.map (·.1)/\xs'.Perm (xs++[(key,b)]))->Q r { s with heap:=h' }):
  wpAny (model prog w) A (setAddHashed a (.ref b) ((rk prog w).hash key)) Q E s:=by
 obtain⟨⟨es,ep,t,ho,X,hled,hpl,hfew⟩,hnd⟩:=S
 have hlen:es.size=xs.length:=by have:=congrArg List.length X.es;simpa using this
 unfold setAddHashed setAddHashedIn
 refine wpAny_holding (wpAny_bind (wpAny_setState_of ho rfl X.fits ?_))
 dsimp only
 rw[if_neg (by simp[byScan,Value.scannable])]
 obtain⟨K,k1,k2,k3⟩:=X.tab.first (by rw[List.length_map];exact X.few) ((rk prog w).hash key)
 have hmk:t.mask<=127:=by rcases X.tab.mask with e | e | e <;> omega
 refine wpAny_bind ?_
 unfold setSearch
 refine search_spec (key:=key) (b:=b) hu ho rfl X hb (λ hm=>?_) (λ hm j F=>?_) 100000 0 none rfl (λ m hm=>by omega) ⟨K,by omega,by omega,k1,k2,k3⟩
 ·dsimp only
  refine wpAny_pure ?_
  have:=h s.heap xs false ⟨rfl,λ _ _=>rfl⟩ ⟨⟨es,ep,t,ho,X,hled,hpl,hfew⟩,hnd⟩ (.inl ⟨hm,rfl⟩)
  exact this
 ·dsimp only
  refine wpAny_bind (wpAny_setState_of ho rfl X.fits ?_)
  dsimp only
  obtain⟨p1,p2,p3⟩:=X.tab.put F
  rw[List.length_map] at p1
  have hpt:(t.put j).1.plain=true:=by rw[p2];exact hpl
  have hmt:(t.put j).1.mask=t.mask:=by rw[p2]
  have hlt:(t.put j).1.led=led:=by rw[p2];exact hled
  generalize hT:(t.put j)=P at *
  obtain⟨t1,p⟩:=P
  dsimp only at *
  rw[hpt]
  simp only[if_true]
  refine wpAny_bind (hashPlain hb ?_)
  simp only[if_true]
  let xs1:=xs.take p++(key,b)::xs.drop p
  have hperm:xs1.Perm (xs++[(key,b)]):=by
   have e:xs.take p++xs.drop p=xs:=List.take_append_drop p xs
   have:xs1.Perm ((key,b)::(xs.take p++xs.drop p)):=List.perm_middle
   rw[e] at this
   exact this.trans (List.perm_append_singleton _ _).symm
  have hl1:xs1.length=xs.length+1:=by rw[hperm.length_eq];simp
  have hes1:(insertAt es p ((rk prog w).hash key,Value.ref b)).toList=xs1.map λ e=>((rk prog w).hash e.1,Value.ref e.2):=by
   rw[toList_insertAt,X.es]
   simp[xs1,List.map_take,List.map_drop]
  have hsz1:(insertAt es p ((rk prog w).hash key,Value.ref b)).size=xs.length+1:=by rw[<- Array.length_toList,hes1,List.length_map,hl1]
  have hsl:(insertAt es p ((rk prog w).hash key,Value.ref b)).size<=sizeLine:=by
   rw[hsz1]
   have:sizeLine=16777216:=rfl
   omega
  refine wpAny_bind (wpAny_storeSet_of ho rfl ?_ hsl)
  have sb:=Heap.SameBut.update s.heap a (Obj.putSet (insertAt es p ((rk prog w).hash key,Value.ref b)) t1)
  have ho1:=put_get (es':=insertAt es p ((rk prog w).hash key,Value.ref b)) (t':=t1) ho
  have hm7:7<=t.mask:=by rcases X.tab.mask with e | e | e <;> omega
  have X1:Els (prog:=prog) (w:=w) (s.heap.update a (Obj.putSet (insertAt es p ((rk prog w).hash key,Value.ref b)) t1)) (insertAt es p ((rk prog w).hash key,Value.ref b)) t1 xs1:=by
   refine⟨hes1,λ e he=>?_,?_,by rw[hl1,hmt];omega⟩
   ·rcases List.mem_append.mp (hperm.mem_iff.mp he) with q | q
    ·exact tup_keep (X.is e q) ho sb
    ·cases List.mem_singleton.mp q;exact tup_keep hb ho sb
   ·have:xs1.map (λ e=>(rk prog w).hash e.1)=(xs.map λ e=>(rk prog w).hash e.1).take p++(rk prog w).hash key::(xs.map λ e=>(rk prog w).hash e.1).drop p:=by simp[xs1,List.map_take,List.map_drop]
    rw[this];exact p3
  have hnd1:(xs1.map (·.1)).Nodup:=by
   refine (hperm.map _).nodup_iff.mpr ?_
   rw[List.map_append,List.nodup_append]
   refine⟨hnd,by simp,λ x hx y hy=>?_⟩
   simp at hy
   subst hy
   exact λ e=>hm (e▸hx)
  by_cases hf:t1.tooFull=true
  ·rw[hf]
   simp only[Bool.not_false,Bool.and_self,if_true]
   have hfill:t1.fill=xs.length+1:=by
    unfold SetTable.fill
    rw[p3.dum,p3.len]
    simp
    omega
   have hfull:t.mask*3<=(xs.length+1)*5:=by
    have:=hf
    unfold SetTable.tooFull at this
    rw[hfill,hmt] at this
    simpa using this
   obtain⟨M',g1,g2,g3⟩:=sizes xs.length t.mask X.tab.mask hfew hfull hn
   rw[hlen]
   refine wpAny_bind (relay_spec (led:=led) ho1 X1 hlt hpt g1 g2 (by rw[hl1];exact g3) hnd1 λ h' xs' sb' S' pm=>?_)
   refine wpAny_pure ?_
   exact h h' xs' true (sb.trans sb') S' (.inr ⟨hm,pm.trans hperm⟩)
  ·have hf':t1.tooFull=false:=by simpa using hf
   rw[hf']
   simp only[Bool.not_false,Bool.and_false,Bool.false_eq_true,if_false]
   refine wpAny_pure ?_
   have hfill:t1.fill=xs.length+1:=by
    unfold SetTable.fill
    rw[p3.dum,p3.len]
    simp
    omega
   have hfull:(xs.length+1)*5<t.mask*3:=by
    have:=hf'
    unfold SetTable.tooFull at this
    rw[hfill,hmt] at this
    simpa using this
   exact h _ xs1 true sb ⟨⟨_,ep+1,t1,ho1,X1,hlt,hpt,by rw[hl1,hmt];exact hfull⟩,hnd1⟩ (.inr ⟨hm,hperm⟩)
end
end ST
namespace ST
open PySem PySem.SetTable
noncomputable def ledOf (w:World):Bool:=!w.params.followText "set-order"
noncomputable def set0 (w:World):Obj:={ cls:=.type "set",dict:=none,data:=.set #[] 0 (.fresh 0 0 (ledOf w)) }
section
variable {prog:Program}{w:World}{A:Around}{E:Value->Shared->Prop}{s:Shared}
set_option maxHeartbeats 3200000 in
theorem code_new (a:Value) {Q:Value->Shared->Prop}(h:Q (.ref s.heap.objs.size) { s with heap:=s.heap.push (set0 w) }):
  codeAny (model prog w) A (.call (.builtin "set.__new__") ⟨[.type "set",a],[]⟩) (wants Q E) s:=by
 refine codeAny_of_tree ?_
 show wpAny _ A.in1 (checkBuiltinCall "set.__new__" ⟨[.type "set",a],[]⟩ >>= λ _=>again (.builtin "set.__new__" ⟨[.type "set",a],[]⟩)) _ _ s
 refine wpAny_bind (wpAny_of_eq (F.newCall_set_1 a) (wpAny_pure ⟨plainId_quiet F.plain_set_new _,codeAny_builtin F.entry_set_new ?_⟩))
 rw[Around.under_plainId F.plain_set_new _]
 unfold Builtin.«set.__new__» Builtin.Frozenset.newClass newSet setsByText
 have sub:=sub_set_self
 obtain⟨hp,g,d,tk,os⟩:=s
 dsimp only
 wp_walk
 refine wpAny_askSetting (wpAny_pure ?_)
 dsimp only
 simp only[newObj]
 exact wpAny_bind (wpAny_alloc (wpAny_pure (wpAny_pure h)))
theorem set0_rows {h:Heap}{a:Addr}(ho:h.get? a=some (set0 w)):SetR prog w h a [] (ledOf w):=
 ⟨⟨#[],0,_,ho,⟨rfl,λ e he=>(by cases he),⟨.inl rfl,rfl,rfl,.nil,λ j hj=>(by cases hj),λ i g j hg=>(by cases hg)⟩,by simp⟩,rfl,rfl,by show 0*5<7*3;omega⟩,.nil⟩
end
end ST
namespace ST
open PySem PySem.SetTable PyProof.Rows
structure Up (its:Array Value) (rows:List (List Int)) (i:Nat) (xs:List (List Int×Addr)):Prop where
 own:∀ e∈xs,∃ j,j<i/\its[j]?=some (.ref e.2)/\rows[j]?=some e.1
 all:∀ (j:Nat) r,j<i->rows[j]?=some r->r∈xs.map (·.1)
theorem Up.len {its:Array Value}{rows:List (List Int)}{i:Nat}{xs:List (List Int×Addr)}(U:Up its rows i xs) (nd:(xs.map (·.1)).Nodup):xs.length<=i:=by
 have:∀ x∈xs.map (·.1),x∈(List.range i).map λ j=>rows.getD j []:=λ x hx=>by
  obtain⟨e,he,rfl⟩:=List.mem_map.mp hx
  obtain⟨j,h1,_,h3⟩:=U.own e he
  refine List.mem_map.mpr ⟨j,List.mem_range.mpr h1,?_⟩
  rw[List.getD_eq_getElem?_getD,h3];rfl
 have key:∀ (l m:List (List Int)),l.Nodup->(∀ x∈l,x∈m)->l.length<=m.length:=by
  intro l
  induction l with
  | nil=>intro m _ _;exact Nat.zero_le _
  | cons x l ih=>
   intro m hn hs
   have h1:=List.nodup_cons.mp hn
   have hx:=hs x List.mem_cons_self
   have:=ih (m.erase x) h1.2 λ z hz=>(List.mem_erase_of_ne (λ e:z=x=>h1.1 (by rw[<- e];exact hz))).mpr (hs z (List.mem_cons_of_mem _ hz))
   rw[List.length_erase_of_mem hx] at this
   have:=List.length_pos_of_mem hx
   simp only[List.length_cons];omega
 have:=key _ _ nd this
 simpa using this
theorem Up.step {its:Array Value}{rows:List (List Int)}{i:Nat}{xs xs':List (List Int×Addr)}{key:List Int}{b:Addr}(U:Up its rows i xs) (hi:its[i]?=some (.ref b)) (hr:rows[i]?=some key)
  (h:key∈xs.map (·.1)/\xs'=xs\/key∉xs.map (·.1)/\xs'.Perm (xs++[(key,b)])):Up its rows (i+1) xs':=by
 rcases h with ⟨hm,rfl⟩ | ⟨_,hp⟩
 ·refine⟨λ e he=>?_,λ j r hj hrj=>?_⟩
  ·obtain⟨j,h1,h2⟩:=U.own e he
   exact⟨j,by omega,h2⟩
  ·rcases Nat.lt_or_ge j i with q | q
   ·exact U.all j r q hrj
   ·have:j=i:=by omega
    subst this
    rw[hr] at hrj;cases hrj;exact hm
 ·refine⟨λ e he=>?_,λ j r hj hrj=>?_⟩
  ·rcases List.mem_append.mp (hp.mem_iff.mp he) with q | q
   ·obtain⟨j,h1,h2⟩:=U.own e q
    exact⟨j,by omega,h2⟩
   ·cases List.mem_singleton.mp q
    exact⟨i,by omega,hi,hr⟩
  ·have hp':=hp.map (·.1)
   rw[hp'.mem_iff,List.map_append]
   rcases Nat.lt_or_ge j i with q | q
   ·exact List.mem_append_left _ (U.all j r q hrj)
   ·have:j=i:=by omega
    subst this
    rw[hr] at hrj;cases hrj
    exact List.mem_append_right _ List.mem_cons_self
section
variable {prog:Program}{w:World}{A:Around}{R:Result->Shared->Prop}{I:Addr}{fp wr:List Addr}{G:Array GenState->Array GenState->Prop}{n:Nat}{P:Nat->Value->Prop}{St:Nat->Shared->Prop}
def Tups (prog:Program) (w:World) (h:Heap) (its:Array Value) (rows:List (List Int)):Prop:=∀ (i:Nat) v,its[i]?=some v->∃ b r,v=.ref b/\rows[i]?=some r/\IsTupleKey (intKind prog w) h r b
theorem Tups.at {h h':Heap}{its:Array Value}{rows:List (List Int)}(T:Tups prog w h its rows) (k:∀ (i:Nat) b,its[i]?=some (.ref b)->∀ o,h.get? b=some o->h'.get? b=some o):Tups prog w h' its rows:=λ i v hv=>by
 obtain⟨b,r,rfl,h1,o,items,m,h2,h3⟩:=T i v hv
 exact⟨b,r,rfl,h1,o,items,m,k i b hv o h2,h3⟩
theorem loop_rows (W:WalksS prog w A.in1 I fp wr G n (λ i v=>P i v) St) (Sa:Addr) (hSf:Sa∉fp) {its:Array Value}{rows:List (List Int)}(hP:∀ i v,P i v->its[i]?=some v) (hn:n<70) (hu:A.units+1<cLine) (led:Bool)
  (hoff:∀ (i:Nat) b,its[i]?=some (.ref b)->b∉Sa::wr):∀ (k i:Nat) (s:Shared) (xs:List (List Int×Addr)),n-i=k->i<=n->St i s->SetR prog w s.heap Sa xs led->Tups prog w s.heap its rows->Up its rows i xs->
   (∀ s' xs',Moved (Sa::wr) G s s'->SetR prog w s'.heap Sa xs' led->Up its rows n xs'->R (.ok (.ret .none)) s')->
   codeAny (model prog w) A (.builtin "set.update.loop" ⟨[.ref Sa,.ref I],[]⟩) R s:=by
 have hSw:Sa∉wr:=λ z=>hSf (W.sub _ z)
 have more:∀ b∈wr,b∈Sa::wr:=λ b hb=>List.mem_cons_of_mem _ hb
 have keepS:∀ {s s':Shared}{xs:List (List Int×Addr)}{wr':List Addr},Sa∉wr'->(∀ e∈xs,e.2∉wr')->Moved wr' G s s'->SetR prog w s.heap Sa xs led->SetR prog w s'.heap Sa xs led:=λ{s s' xs wr'} h1 h2 hm ⟨⟨es,ep,t,ho,X,r1,r2,r3⟩,nd⟩=>
  ⟨⟨es,ep,t,hm.heap Sa _ h1 ho,⟨X.es,λ e he=>by
   obtain⟨o,items,m,g1,g2⟩:=X.is e he
   exact⟨o,items,m,hm.heap _ _ (h2 e he) g1,g2⟩,X.tab,X.few⟩,r1,r2,r3⟩,nd⟩
 intro k
 induction k with
 | zero=>
  intro i s xs hk hi hst hS hT hU hR
  have e:i=n:=by omega
  subst e
  refine codeAny_builtin F.entry_set_update_loop ?_
  rw[Around.under_plainId F.plain_set_update_loop _]
  show wpAny _ A.in1 (pyNext (.ref I) >>= _) _ _ s
  refine wpAny_bind (W.done s _ _ hst λ s' hm=>?_)
  refine wpAny_pure (hR s' xs (hm.mono more) (keepS hSw (λ e he=>?_) hm hS) hU)
  obtain⟨j,_,h2,_⟩:=hU.own e he
  exact λ z=>hoff j e.2 h2 (more _ z)
 | succ k ih=>
  intro i s xs hk hi hst hS hT hU hR
  have hlt:i<n:=by omega
  refine codeAny_builtin F.entry_set_update_loop ?_
  rw[Around.under_plainId F.plain_set_update_loop _]
  show wpAny _ A.in1 (pyNext (.ref I) >>= _) _ _ s
  refine wpAny_bind (W.item i s _ _ hlt hst λ v s1 hPv hst1 hm=>?_)
  have hv:=hP i v hPv
  have T1:Tups prog w s1.heap its rows:=hT.at λ j b hj o e=>hm.heap b o (λ z=>hoff j b hj (more _ z)) e
  obtain⟨b,r,rfl,hr,hb⟩:=T1 i v hv
  have S1:SetR prog w s1.heap Sa xs led:=keepS hSw (λ e he=>by
   obtain⟨j,_,h2,_⟩:=hU.own e he
   exact λ z=>hoff j e.2 h2 (more _ z)) hm hS
  have hl:xs.length<70:=by have:=hU.len hS.nd;omega
  show wpAny _ A.in1 (holding [Value.ref b] (setAdd Sa (.ref b)) >>= _) _ _ s1
  refine wpAny_bind (wpAny_holding ?_)
  unfold setAdd
  refine wpAny_holding (wpAny_bind ((rk prog w).pyHash (k:=r) (a:=b) (A:=A.in1) hu hb ?_))
  refine add_spec (s:={ s1 with toks:=s1.toks+(rk prog w).draws r }) (A:=A.in1) hu S1 hb hl λ h' xs' rr sb S' hx=>?_
  have fr:=W.frame (i+1) s1 h' (s1.toks+(rk prog w).draws r) hst1 (Nat.le_add_right _ _) λ c hc o e=>(sb.2 c (λ z:c=Sa=>hSf (z▸hc))).trans e
  refine wpAny_pure ⟨plainId_quiet F.plain_set_update_loop _,ih (i+1) _ xs' (by omega) hlt fr S' (T1.at λ j c hj o e=>?_) (hU.step hv hr hx) λ s2 xs2 hm2 S2 U2=>?_⟩
  ·exact (sb.2 c (λ z=>hoff j c hj (z▸List.mem_cons_self))).trans e
  ·refine hR s2 xs2 (Moved.trans W.gtrans ((hm.mono more).then_heap (Nat.le_add_right _ _) λ c o hc e=>?_) hm2) S2 U2
   exact (sb.2 c (λ z=>hc (z▸List.mem_cons_self))).trans e
end
end ST
namespace ST
open PySem PySem.SetTable PyProof.Rows
section
variable {prog:Program}{w:World}{A:Around}{E:Value->Shared->Prop}{s:Shared}
set_option maxRecDepth 100000 in
set_option maxHeartbeats 6400000 in
theorem call_set {l:Addr}{its:Array Value}{rows:List (List Int)}{Q:Value->Shared->Prop}(hh:A.handled=none) (hu:A.units+64<cLine) (hl:s.heap.IsList l its) (hT:Tups prog w s.heap its rows) (hn:its.size<70)
  (h:∀ (h':Heap) (tk:Nat) xs,SetR prog w h' s.heap.objs.size xs (ledOf w)->Up its rows its.size xs->(∀ b o,b<s.heap.objs.size->s.heap.get? b=some o->h'.get? b=some o)->Q (.ref s.heap.objs.size) { s with heap:=h',toks:=tk }):
  wpAny (model prog w) A (call (.type "set") [.ref l]) Q E s:=by
 obtain⟨c,tl,hmro⟩:=F.called_set.mro
 have made:=F.called_set.made
 have subm:=F.called_set.sub
 refine wpAny_call (codeAny_of_tree ?_)
 show wpAny _ _ (callAny (.type "set") _) _ _ _
 refine wpAny_pure ⟨Code.quiet_builtin _ (by decide +kernel),codeAny_builtin F.entry_type_call ?_⟩
 rw[Around.under_plain (weight_type_call_type "set" [.ref l] []) rfl]
 have nt:=F.called_set.notType
 have cc:=F.called_set.canCreate
 have tc:=F.typeCall_set_1 (.ref l)
 repeat (any_goals (first | assumption | wp_step))
 refine codeAny_mono (code_new (.ref l) (E:=E) (Q:=λ obj s₁=>obj=.ref s.heap.objs.size/\s₁={ s with heap:=s.heap.push (set0 w) }) ⟨rfl,rfl⟩) λ r s₁ hr=>?_
 cases r with
 | error e=>exact hr
 | ok fl=>
  cases fl with
  | ret obj=>
   obtain⟨rfl,rfl⟩:=hr
   have hS:(s.heap.push (set0 w)).get? s.heap.objs.size=some (set0 w):=Heap.get?_push_size _ rfl
   have hTy:Shared.TypeIs { s with heap:=s.heap.push (set0 w) } (.ref s.heap.objs.size) "set":=⟨_,hS,rfl⟩
   have li:=F.called_set.init.lookup
   have bi:=F.called_set.init.bind (.ref s.heap.objs.size)
   repeat (any_goals (first | assumption | wp_step))
   let s1:Shared:={ s with heap:=s.heap.push (set0 w) }
   refine codeAny_mono (codeAny_call_builtin (R:=wants (λ r s₂=>r=.none/\∃ h' tk xs,s₂={ s with heap:=h',toks:=tk }/\SetR prog w h' s.heap.objs.size xs (ledOf w)/\Up its rows its.size xs/\
     ∀ b o,b<s.heap.objs.size->s.heap.get? b=some o->h'.get? b=some o) E) F.called_set.init.plain F.entry_set_init (check_set_init_1 hTy ?_)) λ r₂ s₂ hr₂=>?_
   ·obtain⟨⟨ocls,odict,odata,oslots⟩,hol,hcl,nl,hdl⟩:=id hl
    simp only at hcl hdl
    subst hcl hdl
    have hol1:(s.heap.push (set0 w)).get? l=some { cls:=.type "list",dict:=odict,data:=.seq its nl,slots:=oslots }:=Heap.get?_push_of_some _ hol
    have sls:=F.sub_list_set
    have slf:=F.sub_list_frozenset
    have nd:(Value.type "list" == Value.type "dict")=false:=by decide
    have hl1:(s.heap.push (set0 w)).IsList l its:=⟨_,hol1,rfl,nl,rfl⟩
    unfold Builtin.«set.__init__» noKeywords Builtin.Frozenset.updateFrom
    generalize hPI:pyIter=PI
    unfold set0 at *
    wp_walk
    subst hPI
    refine wpAny_pyIter_list hl1 (wpAny_bind (wpAny_runValue ?_))
    have hlS:l<s.heap.objs.size:=Heap.lt_size hol
    have hsz:(s.heap.push (set0 w)).objs.size=s.heap.objs.size+1:=Heap.size_push _ _
    have hneI:l≠(s.heap.push (set0 w)).objs.size:=by rw[hsz];exact Nat.ne_of_lt (Nat.lt_succ_of_lt hlS)
    have szne:s.heap.objs.size≠(s.heap.push (set0 w)).objs.size:=by rw[hsz];exact Nat.ne_of_lt (Nat.lt_succ_self _)
    have low:∀ b:Addr,b<s.heap.objs.size->b≠(s.heap.push (set0 w)).objs.size:=λ b hb=>by rw[hsz];exact Nat.ne_of_lt (Nat.lt_succ_of_lt hb)
    have tin:∀ (i:Nat) b,its[i]?=some (.ref b)->b<s.heap.objs.size:=λ i b hb=>by
     obtain⟨b',r,e,_,o,_,_,ho,_⟩:=hT i _ hb
     cases e;exact Heap.lt_size ho
    refine loop_rows (A:=A.in1.in1) (P:=λ i v=>its[i]?=some v) ((Walks.list (A:=A.in1.in1.in1) (by simp[hh]) _ l hneI its).toS) s.heap.objs.size ?_ (its:=its) (rows:=rows) (λ _ _ q=>q) hn (show A.units+1+1+1<cLine by omega) (ledOf w) ?_ its.size 0 _ [] (by omega) (Nat.zero_le _)
     ⟨⟨_,Heap.get?_push_size _ rfl,rfl,rfl⟩,hl1.push _⟩ (set0_rows (w:=w) (Heap.get?_push_of_some _ hS)) (hT.at λ i b _ o e=>Heap.get?_push_of_some _ (Heap.get?_push_of_some _ e)) ⟨λ e he=>(by cases he),λ j r hj=>(by omega)⟩ ?_
    ·intro hm
     rcases List.mem_cons.mp hm with q | q
     ·exact szne q
     ·exact Nat.ne_of_gt hlS (List.mem_singleton.mp q)
    ·intro i b hb hm
     have hlt:=tin i b hb
     rcases List.mem_cons.mp hm with q | q
     ·exact Nat.ne_of_lt hlt q
     ·exact low b hlt (List.mem_singleton.mp q)
    ·intro s' xs' hm S' U'
     obtain⟨h',g',d',tk',os'⟩:=s'
     obtain rfl:g'=s.gens:=hm.gens
     obtain rfl:d'=s.drawn:=hm.drawn
     obtain rfl:os'=s.os:=hm.os
     refine wpAny_pure (wpAny_pure ⟨rfl,h',tk',xs',rfl,S',U',λ b o hb e=>?_⟩)
     refine hm.heap b o (λ q=>?_) (Heap.get?_push_of_some _ (Heap.get?_push_of_some _ e))
     rcases List.mem_cons.mp q with q | q
     ·exact Nat.ne_of_lt hb q
     ·exact low b hb (List.mem_singleton.mp q)
   ·cases r₂ with
    | error e=>exact hr₂
    | ok fl₂=>
     cases fl₂ with
     | ret r=>
      obtain⟨rfl,h',tk,xs,rfl,g1,g2,g3⟩:=hr₂
      repeat (any_goals (first | assumption | wp_step))
      exact h h' tk xs g1 g2 g3
     | _=>exact hr₂.elim
  | _=>exact hr.elim
end
end ST
namespace ST
open PySem PySem.SetTable
section facts
set_option maxRecDepth 100000
theorem ow_si:Manifest.owners.lookup (String.ofList ['r','o','t','a','r','e','t','i','_','t','e','s'].reverse)=some Manifest.sig_set_iterator:=by kernel_rfl
theorem sl_si_next:Slot "set_iterator" "__next__" "set_iterator.__next__":=
 .of (owner:="set_iterator") (n:="__next__") (by rw[typeLookup_type,builtinLookup_eq_fast];kernel_rfl) (by decide +kernel) (by decide +kernel) (by decide +kernel) (by first | exact .inl (by decide +kernel) | exact .inr (by decide +kernel)) (by rw[isSubtype_type];kernel_rfl)
theorem en_si_next:entryFor table "set_iterator.__next__"=some Builtin.«set_iterator.__next__»:=entryFor_of_tree (by kernel_rfl)
theorem ar_si_next (a:Value):argsOk "set_iterator.__next__" ⟨[a],[]⟩:=by
 unfold argsOk
 rw[signature?_of (id:="set_iterator.__next__") (n:=['_','_','t','x','e','n','_','_']) (o:=['r','o','t','a','r','e','t','i','_','t','e','s']) (by kernel_rfl) ow_si]
 kernel_rfl
theorem en_set_iter:entryFor table "set.__iter__"=some Builtin.«frozenset.__iter__»:=entryFor_alias (id':="frozenset.__iter__") (by kernel_rfl) rfl (by decide +kernel) (by kernel_rfl)
theorem sl_si_iter:Slot "set_iterator" "__iter__" "set_iterator.__iter__":=
 .of (owner:="set_iterator") (n:="__iter__") (by rw[typeLookup_type,builtinLookup_eq_fast];kernel_rfl) (by decide +kernel) (by decide +kernel) (by decide +kernel) (by first | exact .inl (by decide +kernel) | exact .inr (by decide +kernel)) (by rw[isSubtype_type];kernel_rfl)
theorem en_si_iter:entryFor table "set_iterator.__iter__"=some Builtin.«dict_keyiterator.__iter__»:=entryFor_alias (id':="dict_keyiterator.__iter__") (by kernel_rfl) rfl (by decide +kernel) (by kernel_rfl)
theorem ar_si_iter (a:Value):argsOk "set_iterator.__iter__" ⟨[a],[]⟩:=by
 unfold argsOk
 rw[signature?_of (id:="set_iterator.__iter__") (n:=['_','_','r','e','t','i','_','_']) (o:=['r','o','t','a','r','e','t','i','_','t','e','s']) (by kernel_rfl) ow_si]
 kernel_rfl
end facts
end ST
namespace ST
open PySem PySem.SetTable
theorem erase_perm {α:Type}:∀ (l:List α) (i:Nat) (x:α),l[i]?=some x->l.Perm (x::l.eraseIdx i)
 | [],i,x,h=>by simp at h
 | y::l,0,x,h=>by simp at h;subst h;simp
 | y::l,i+1,x,h=>by
  have ih:=erase_perm l i x (by simpa using h)
  rw[List.eraseIdx_cons_succ]
  exact (ih.cons y).trans (.swap x y _)
theorem pick_go {α:Type}(next:Nat->Nat):∀ (f k:Nat) (left:List α) (out:Array α),left.length=f->(pickOrder.go next f k left out).toList.Perm (out.toList++left)
 | 0,k,left,out,h=>by
  cases left with
  | nil=>unfold pickOrder.go;simp
  | cons _ _=>simp at h
 | f+1,k,left,out,h=>by
  unfold pickOrder.go
  have hlt:next k%left.length<left.length:=Nat.mod_lt _ (by omega)
  rw[List.getElem?_eq_getElem hlt]
  dsimp only
  refine (pick_go next f (k+1) _ _ (by rw[List.length_eraseIdx_of_lt hlt];omega)).trans ?_
  rw[Array.toList_push,List.append_assoc]
  exact (erase_perm left _ _ (List.getElem?_eq_getElem hlt)).symm.append_left _
theorem pick_perm {α:Type}(next:Nat->Nat) (xs:Array α):(pickOrder next xs).toList.Perm xs.toList:=by
 unfold pickOrder
 simpa using pick_go next xs.size 0 xs.toList #[] (by simp)
noncomputable def comes (w:World) (a:Addr) (es:Array (Int×Value)) (ep:Nat):Array (Int×Value):=if w.params.followText "set-order"=true then pickOrder (w.params.setOrder a ep) es else es
theorem comes_perm (w:World) (a:Addr) (es:Array (Int×Value)) (ep:Nat):(comes w a es ep).toList.Perm es.toList:=by
 unfold comes
 split
 ·exact pick_perm _ _
 ·exact .refl _
noncomputable def itObj (a:Addr) (slot i n ep:Nat):Obj:={ cls:=.type "set_iterator",data:=.fields #[rawInt slot,rawInt i,.ref a,rawInt n,rawInt ep] }
noncomputable def slotAt (t:SetTable):Nat->Nat
 | 0=>0
 | i+1=>t.place.getD i 0+1
theorem below_slot {t:SetTable}(hr:Ris t.place.toList):∀ i,i<=t.place.size->below t.place (slotAt t i)=i
 | 0,_=>by
  obtain⟨h1,h2,h3⟩:=below_spec (xs:=t.place) (j:=0) hr
  rcases Nat.eq_zero_or_pos (below t.place 0) with q | q
  ·exact q
  ·have:=h2 0 (by omega) q
   omega
 | i+1,hi=>by
  have hd:t.place.getD i 0=t.place[i]:=getD_lt (by omega)
  show below t.place (t.place.getD i 0+1)=i+1
  rw[hd]
  obtain⟨h1,h2,h3⟩:=below_spec (xs:=t.place) (j:=t.place[i] + 1) hr
  have ris:∀ a b (ha:a<t.place.size) (hb:b<t.place.size),a<b->t.place[a]<t.place[b]:=λ a b ha hb hab=>by
   have r:=List.pairwise_iff_getElem.mp hr a b (by simpa using ha) (by simpa using hb) hab
   rw[Array.getElem_toList,Array.getElem_toList] at r
   exact r
  rcases Nat.lt_trichotomy (below t.place (t.place[i] + 1)) (i+1) with q | q | q
  ·have:=h3 i (by omega) (by omega)
   omega
  ·exact q
  ·have a:=h2 (i+1) (by omega) q
   have b:=ris i (i+1) (by omega) (by omega) (by omega)
   omega
structure SetAt (w:World) (h:Heap) (a:Addr) (es:Array (Int×Value)) (ep:Nat) (t:SetTable):Prop where
 get:h.get? a=some { cls:=.type "set",dict:=none,data:=.set es ep t }
 fits:t.fits es.size=true
 ris:Ris t.place.toList
 led:t.led=ledOf w
 plain:t.plain=true
theorem SetAt.size {w:World}{h:Heap}{a:Addr}{es:Array (Int×Value)}{ep:Nat}{t:SetTable}(S:SetAt w h a es ep t):t.place.size=es.size:=by
 have:=S.fits
 simp only[SetTable.fits,Bool.and_eq_true,beq_iff_eq] at this
 exact this.1
section
variable {prog:Program}{w:World}{A:Around}{E:Value->Shared->Prop}{s:Shared}
theorem next_spec {a:Addr}{es:Array (Int×Value)}{ep:Nat}{t:SetTable}{i:Nat}{Q:Option (Value×Nat)->Shared->Prop}(S:SetAt w s.heap a es ep t) (hi:i<=es.size) (slot:Nat) (hs:w.params.followText "set-order"=false->slot=slotAt t i)
  (h:∀ slot',(w.params.followText "set-order"=false->slot'=slotAt t (i+1))->Q ((comes w a es ep)[i]?.map λ e=>(e.2,slot')) s):wpAny (model prog w) A (setNext a slot i ep) Q E s:=by
 unfold setNext setsByText
 refine wpAny_bind (wpAny_setState_of S.get rfl S.fits ?_)
 dsimp only
 refine wpAny_bind (wpAny_bind (wpAny_askSetting (wpAny_pure ?_)))
 show wpAny _ A (if w.params.followText "set-order"=true then _ else _) Q E s
 cases hb:w.params.followText "set-order" with
 | true=>
  rw[if_pos rfl,if_neg (by simp)]
  unfold setWalk setsByText
  refine wpAny_bind (wpAny_bind (wpAny_setState_of S.get rfl S.fits ?_))
  dsimp only
  refine wpAny_bind (wpAny_bind (wpAny_askSetting (wpAny_pure ?_)))
  show wpAny _ A (if w.params.followText "set-order"=true then _ else _) _ E s
  rw[if_pos hb]
  refine wpAny_bind (wpAny_askSetting (wpAny_pure ?_))
  refine wpAny_pure ?_
  have:=h slot (λ q=>by rw[hb] at q;cases q)
  unfold comes at this
  rw[if_pos hb] at this
  exact this
 | false=>
  rw[if_neg (by simp)]
  split
  ·rename_i hd
   have hd':(!t.plain&&decide (es.size>1))=true:=hd
   rw[S.plain] at hd';simp at hd'
  ·show wpAny _ A ((if (!t.led&&!es.isEmpty)=true then unsupported "set:maker-not-led" else pure ()) >>= _) Q E s
   have hl:t.led=true:=by rw[S.led];unfold ledOf;rw[hb];rfl
   rw[if_neg (by rw[hl];simp)]
   refine wpAny_bind (wpAny_pure (wpAny_pure ?_))
   have hsl:=hs hb
   have hz:=S.size
   rw[hsl,below_slot S.ris i (by rw[hz];exact hi)]
   have:=h (slotAt t (i+1)) (λ _=>rfl)
   unfold comes at this
   rw[if_neg (by rw[hb];simp)] at this
   rcases Nat.lt_or_ge i es.size with q | q
   ·have hp:i<t.place.size:=by rw[hz];exact q
    rw[Array.getElem?_eq_getElem q] at this
    rw[Array.getElem?_eq_getElem q,Array.getElem?_eq_getElem hp]
    have e:slotAt t (i+1)=t.place[i] + 1:=by show t.place.getD i 0+1=_;rw[getD_lt hp]
    rw[e] at this
    exact this
   ·rw[Array.getElem?_eq_none q] at this
    rw[Array.getElem?_eq_none q]
    exact this
theorem it_type {a I:Addr}{slot i n ep:Nat}(ho:s.heap.get? I=some (itObj a slot i n ep)):s.TypeIs (.ref I) "set_iterator":=⟨_,ho,rfl⟩
theorem toNat_raw (k:Nat):((k:Int)).toNat=k:=Int.toNat_natCast k
theorem si_item {I a:Addr}{es:Array (Int×Value)}{ep:Nat}{t:SetTable}{i slot:Nat}{e:Int×Value}{Q:Option Value->Shared->Prop}(ho:s.heap.get? I=some (itObj a slot i es.size ep)) (S:SetAt w s.heap a es ep t) (hs:w.params.followText "set-order"=false->slot=slotAt t i) (he:(comes w a es ep)[i]?=some e)
  (hi:i<es.size) (h:∀ h' slot',(w.params.followText "set-order"=false->slot'=slotAt t (i+1))->h'.get? I=some (itObj a slot' (i+1) es.size ep)->Heap.SameBut I s.heap h'->Q (some e.2) { s with heap:=h' }):wpAny (model prog w) A (pyNext (.ref I)) Q E s:=by
 unfold pyNext
 refine wpAny_bind (wpAny_attempt (wpAny_callSpecial?_slot (name:=Str.ofString "__next__") (it_type ho) sl_si_next (wpAny_call_entry sl_si_next (it_type ho) en_si_next ?_ (ar_si_next _))))
 refine wpAny_bind (wpAny_pure ?_)
 dsimp only
 refine wpAny_bind (wpAny_fieldsOf ho rfl ?_)
 dsimp only[rawInt]
 refine wpAny_bind (wpAny_bind (wpAny_setState_of S.get rfl S.fits (wpAny_pure ?_)))
 rw[if_neg (by simp)]
 refine wpAny_bind (next_spec S (by omega) slot hs λ slot' hs'=>?_)
 rw[toNat_raw] at hs' ⊢
 rw[he]
 dsimp only[Option.map_some]
 refine wpAny_bind (wpAny_setField ho rfl (by simp) ?_)
 have o1:=Heap.get?_update_self (Obj.mapFields (·.set! 0 (Value.int (slot':Int) 0))) ho rfl
 refine wpAny_bind (wpAny_setField o1 rfl (by simp) ?_)
 have o2:=Heap.get?_update_self (Obj.mapFields (·.set! 1 (Value.int ((i:Int)+1) 0))) o1 rfl
 refine wpAny_pure ⟨_,rfl,wpAny_pure (h _ slot' hs' o2 ((Heap.SameBut.update ..).trans (Heap.SameBut.update ..)))⟩
theorem si_end {I a:Addr}{es:Array (Int×Value)}{ep:Nat}{t:SetTable}{slot:Nat}{Q:Option Value->Shared->Prop}(hh:A.handled=none) (ho:s.heap.get? I=some (itObj a slot es.size es.size ep)) (S:SetAt w s.heap a es ep t) (hs:w.params.followText "set-order"=false->slot=slotAt t es.size)
  (h:∀ h',Heap.ExtBut I s.heap h'->Q none { s with heap:=h' }):wpAny (model prog w) A (pyNext (.ref I)) Q E s:=by
 have hn:(comes w a es ep)[es.size]?=none:=by
  have:=(comes_perm w a es ep).length_eq
  simp only[Array.length_toList] at this
  rw[Array.getElem?_eq_none (by omega)]
 unfold pyNext
 refine wpAny_bind (wpAny_attempt (wpAny_callSpecial?_slot (name:=Str.ofString "__next__") (it_type ho) sl_si_next (wpAny_call_entry sl_si_next (it_type ho) en_si_next ?_ (ar_si_next _))))
 refine wpAny_bind (wpAny_pure ?_)
 dsimp only
 refine wpAny_bind (wpAny_fieldsOf ho rfl ?_)
 dsimp only[rawInt]
 refine wpAny_bind (wpAny_bind (wpAny_setState_of S.get rfl S.fits (wpAny_pure ?_)))
 rw[if_neg (by simp)]
 refine wpAny_bind (next_spec S (by simp) slot (by simpa using hs) λ slot' hs'=>?_)
 rw[toNat_raw,hn]
 dsimp only[Option.map_none]
 refine wpAny_bind (wpAny_setField ho rfl (by simp) ?_)
 refine wpAny_bind ?_
 simp only[newExc,newTuple]
 refine wpAny_bind (wpAny_newObj_type ?_ (by size_fits))
 refine wpAny_bind (m:=firstArgMember _ _) (wpAny_of_eq (a:=Value.none) (by first | rfl | (simp only[firstArgMember];rfl)) (wpAny_newObj_type ?_ (by size_fits)))
 unfold raiseNew
 refine wpAny_bind (wpAny_handled ?_)
 rw[show A.in1.handled=none from hh]
 refine wpAny_bind ((wpAny_pure (wpAny_throw ?_)))
 refine wpAny_bind ((wpAny_isInstance (T:="StopIteration") (b:=true) ⟨_,Heap.get?_push_size _ rfl,rfl⟩ isSubtype_stop ?_))
 exact wpAny_pure (h _ (((Heap.SameBut.update ..).extBut.push _).push _))
theorem si_self {I a:Addr}{slot i n ep:Nat}{Q:Value->Shared->Prop}(ho:s.heap.get? I=some (itObj a slot i n ep)) (h:Q (.ref I) s):wpAny (model prog w) A (pyIter (.ref I)) Q E s:=by
 refine wpAny_pyIter_slot (it_type ho) sl_si_iter (wpAny_call_entry sl_si_iter (it_type ho) en_si_iter ?_ (ar_si_iter _))
 exact wpAny_pure ⟨_,rfl,"set_iterator",_,it_type ho,sl_si_next.lookup,h⟩
theorem SetAt.keep {h h':Heap}{a:Addr}{es:Array (Int×Value)}{ep:Nat}{t:SetTable}(S:SetAt w h a es ep t) (k:∀ o,h.get? a=some o->h'.get? a=some o):SetAt w h' a es ep t:=⟨k _ S.get,S.fits,S.ris,S.led,S.plain⟩
theorem walks_set (hh:A.handled=none) (I a:Addr) (hne:a≠I) (es:Array (Int×Value)) (ep:Nat) (t:SetTable):
  Walks prog w A I [I,a] [I] es.size (λ i v=>∃ e,(comes w a es ep)[i]?=some e/\v=e.2) (λ i h=>(∃ slot,(w.params.followText "set-order"=false->slot=slotAt t i)/\h.get? I=some (itObj a slot i es.size ep))/\SetAt w h a es ep t) where
 sub:=λ b hb=>by simp at hb;simp[hb]
 frame:=λ _ _ _ st k=>by
  obtain⟨⟨slot,h1,h2⟩,S⟩:=st
  exact⟨⟨slot,h1,k I (by simp) _ h2⟩,S.keep λ o e=>k a (by simp) o e⟩
 item:=λ i s Q E hi st hQ=>by
  obtain⟨⟨slot,h1,h2⟩,S⟩:=st
  have hl:i<(comes w a es ep).size:=by
   have:=(comes_perm w a es ep).length_eq
   simp only[Array.length_toList] at this
   omega
  refine si_item h2 S h1 (Array.getElem?_eq_getElem hl) hi λ h' slot' g1 g2 g3=>?_
  exact hQ _ h' s.toks ⟨_,Array.getElem?_eq_getElem hl,rfl⟩ ⟨⟨slot',g1,g2⟩,S.keep λ o e=>(g3.2 a hne).trans e⟩ λ b o hb e=>(g3.2 b (λ z=>hb (by simp[z]))).trans e
 done:=λ s Q E st hQ=>by
  obtain⟨⟨slot,h1,h2⟩,S⟩:=st
  exact si_end hh h2 S h1 λ h' g=>hQ h' s.toks λ b o hb e=>g b o (λ z=>hb (by simp[z])) e
 self:=λ _ _ _ _ st hQ=>by
  obtain⟨⟨slot,h1,h2⟩,S⟩:=st
  exact si_self h2 hQ
end
end ST
namespace ST
open PySem PySem.SetTable
section
variable {prog:Program}{w:World}{A:Around}{E:Value->Shared->Prop}{s:Shared}
theorem ln_set:typeLookup (.type "set") "__len__"=pure (some (.builtin "set.__len__")):=F.slot_set_len.lookup
theorem split_len:splitId "set.__len__"=some ("set","__len__"):=by decide +kernel
theorem notDrawn {a:Addr}{es:Array (Int×Value)}{ep:Nat}{t:SetTable}{Q:Bool->Shared->Prop}(S:SetAt w s.heap a es ep t) (h:Q false s):wpAny (model prog w) A (setDrawn a) Q E s:=by
 unfold setDrawn setsByText
 refine wpAny_bind (wpAny_setState_of S.get rfl S.fits ?_)
 dsimp only
 refine wpAny_bind (wpAny_bind (wpAny_askSetting (wpAny_pure (wpAny_pure ?_))))
 show Q (!w.params.followText "set-order"&&(!t.plain&&decide (es.size>1))) s
 rw[S.plain]
 simpa using h
set_option maxRecDepth 100000 in
set_option maxHeartbeats 4000000 in
theorem noHint {a:Addr}{es:Array (Int×Value)}{ep:Nat}{t:SetTable}{Q:Bool->Shared->Prop}(S:SetAt w s.heap a es ep t) (h:Q false s):wpAny (model prog w) A (Builtin.List.listLengthHint (.ref a)) Q E s:=by
 have Ty:s.TypeIs (.ref a) "set":=⟨_,S.get,rfl⟩
 unfold Builtin.List.listLengthHint
 refine wpAny_bind (wpAny_specialOf Ty ln_set ?_)
 dsimp only
 rw[split_len]
 dsimp only
 refine wpAny_bind (wpAny_isInstance (b:=true) Ty sub_set_self ?_)
 rw[if_neg (by decide)]
 rw[if_pos (by decide +kernel)]
 refine wpAny_bind (wpAny_typeOf Ty ?_)
 exact wpAny_pure h
set_option maxRecDepth 100000 in
set_option maxHeartbeats 4000000 in
theorem collect_set {a:Addr}{es:Array (Int×Value)}{ep:Nat}{t:SetTable}{Q:List Value->Shared->Prop}(hh:A.handled=none) (S:SetAt w s.heap a es ep t) (hn:es.size<=sizeLine)
  (h:∀ (h':Heap) (tk:Nat),(∀ b o,b<s.heap.objs.size->s.heap.get? b=some o->h'.get? b=some o)->s.heap.objs.size<=h'.objs.size->Q ((comes w a es ep).toList.map (·.2)) { s with heap:=h',toks:=tk }):wpAny (model prog w) A (collect (.ref a)) Q E s:=by
 have ha:a<s.heap.objs.size:=Heap.lt_size S.get
 unfold collect
 refine wpAny_bind (wpAny_runValue (codeAny_builtin F.entry_proto_collect ?_))
 rw[Around.under_plainId F.plain_proto_collect _]
 show wpAny _ A.in1 (newList [] >>= λ l=>again (.builtin "list.__iadd__" ⟨[l,.ref a],[]⟩)) _ _ s
 refine wpAny_bind (wpAny_newObj_type (wpAny_pure ⟨plainId_quiet F.plain_list_iadd _,codeAny_builtin F.entry_list_iadd ?_⟩))
 rw[Around.under_plainId F.plain_list_iadd _]
 let L0:Obj:={ cls:=.type "list",data:=.seq ([]:List Value).toArray }
 have S1:SetAt w (s.heap.push L0) a es ep t:=S.keep λ o e=>Heap.get?_push_of_some _ e
 have T1:Shared.TypeIs { s with heap:=s.heap.push L0 } (.ref a) "set":=⟨_,S1.get,rfl⟩
 show wpAny _ A.in1 (Builtin.List.listExtendWith (.ref s.heap.objs.size) (.ref a) (.ref s.heap.objs.size)) _ _ { s with heap:=s.heap.push L0 }
 unfold Builtin.List.listExtendWith
 refine wpAny_bind (wpAny_typeOf T1 ?_)
 have hne:s.heap.objs.size≠a:=Nat.ne_of_gt ha
 have c1:Builtin.List.listSameRef (.ref s.heap.objs.size) (.ref a)=false:=by simp[Builtin.List.listSameRef,hne]
 rw[if_neg (by rw[c1];decide)]
 refine wpAny_bind (wpAny_pyIter_slot T1 F.slot_set_iter (wpAny_call_entry F.slot_set_iter T1 en_set_iter ?_ (F.args_set_iter_1 _)))
 refine wpAny_bind (wpAny_bind (wpAny_pure (wpAny_pure ?_)))
 refine wpAny_bind (wpAny_bind (wpAny_bind (wpAny_setState_of S1.get rfl S1.fits (wpAny_pure (wpAny_pure ?_)))))
 refine wpAny_bind (notDrawn S1 ?_)
 rw[if_neg (by decide)]
 refine wpAny_bind (wpAny_pure ?_)
 refine wpAny_bind (wpAny_setEpoch_of S1.get rfl S1.fits ?_)
 refine wpAny_bind (wpAny_newObj_type (wpAny_pure ⟨_,rfl,"set_iterator",_,⟨_,Heap.get?_push_size _ rfl,rfl⟩,sl_si_next.lookup,?_⟩))
 let I:=(s.heap.push L0).objs.size
 let h2:=(s.heap.push L0).push (itObj a 0 0 es.size ep)
 have S2:SetAt w h2 a es ep t:=S1.keep λ o e=>Heap.get?_push_of_some _ e
 have hI:h2.get? I=some (itObj a 0 0 es.size ep):=Heap.get?_push_size _ rfl
 have hL:h2.get? s.heap.objs.size=some L0:=Heap.get?_push_of_some _ (Heap.get?_push_size _ rfl)
 have hsz:(s.heap.push L0).objs.size=s.heap.objs.size+1:=Heap.size_push _ _
 show wpAny _ A.in1 _ _ _ { s with heap:=h2 }
 refine wpAny_bind (wpAny_holding (noHint (s:={ s with heap:=h2 }) S2 ?_))
 rw[if_pos (by decide +kernel)]
 refine wpAny_bind (wpAny_rule ?_)
 refine wpAny_bind ?_
 show wpAny _ A.in1 (updateSeq s.heap.objs.size (·.push .none) >>= λ _=>updateSeq s.heap.objs.size (·.pop)) _ _ { s with heap:=h2 }
 refine wpAny_bind (wpAny_updateSeq hL rfl ?_)
 have hL2:=Heap.get?_update_self (Obj.mapSeq (·.push Value.none)) hL rfl
 refine wpAny_updateSeq hL2 rfl ?_
 have hL3:=Heap.get?_update_self (Obj.mapSeq (·.pop)) hL2 rfl
 let h3:=(h2.update s.heap.objs.size (Obj.mapSeq (·.push Value.none))).update s.heap.objs.size (Obj.mapSeq (·.pop))
 have oth:∀ b o,b≠s.heap.objs.size->h2.get? b=some o->h3.get? b=some o:=λ b o hb e=>(Heap.get?_update_other _ _ (Ne.symm hb)).trans ((Heap.get?_update_other _ _ (Ne.symm hb)).trans e)
 have haI:a≠I:=by show a≠(s.heap.push L0).objs.size;rw[hsz];exact Nat.ne_of_lt (Nat.lt_succ_of_lt ha)
 have hIn:I≠s.heap.objs.size:=by show (s.heap.push L0).objs.size≠_;rw[hsz];exact Nat.ne_of_gt (Nat.lt_succ_self _)
 refine wpAny_pure ⟨plainId_quiet F.plain_extend_loop _,codeAny_extend_loopS ((walks_set (A:=A.in1) hh I a haI es ep t).toS) hn s.heap.objs.size ?_ _ es.size 0 { s with heap:=h3 } #[] _ rfl (Nat.zero_le _) ⟨⟨0,λ _=>rfl,oth I _ hIn hI⟩,S2.keep λ o e=>oth a o (Ne.symm hne) e⟩ hL3 (ItemsOf.nil _) λ s' acc c' hm hS' hacc=>?_⟩
 ·intro hm
  rcases List.mem_cons.mp hm with q | q
  ·exact hIn q.symm
  ·exact hne (List.mem_singleton.mp q)
 ·refine wpAny_bind (wpAny_load hS' (wpAny_pure ?_))
  obtain⟨h',g',d',tk',os'⟩:=s'
  obtain rfl:g'=s.gens:=hm.gens
  obtain rfl:d'=s.drawn:=hm.drawn
  obtain rfl:os'=s.os:=hm.os
  have hcm:(comes w a es ep).size=es.size:=by
   have:=(comes_perm w a es ep).length_eq
   simpa using this
  have e:acc.toList=(comes w a es ep).toList.map (·.2):=by
   refine List.ext_getElem? λ j=>?_
   rw[List.getElem?_map]
   rcases Nat.lt_or_ge j es.size with q | q
   ·have hjl:j<acc.size:=by rw[hacc.1];exact q
    have hj:acc[j]?=some acc[j]:=Array.getElem?_eq_getElem hjl
    obtain⟨e,e1,e2⟩:=hacc.2 j _ hj
    rw[Array.getElem?_toList,Array.getElem?_toList,hj,e1,e2];rfl
   ·rw[Array.getElem?_toList,Array.getElem?_toList,Array.getElem?_eq_none (by rw[hacc.1];exact q),Array.getElem?_eq_none (by rw[hcm];exact q)];rfl
  rw[e]
  refine h h' tk' (λ b o hb e=>hm.heap b o (λ q=>?_) (oth b o (Nat.ne_of_lt hb) (Heap.get?_push_of_some _ (Heap.get?_push_of_some _ e)))) ?_
  ·rcases List.mem_cons.mp q with q | q
   ·exact Nat.ne_of_lt hb q
   ·have q':b=(s.heap.push L0).objs.size:=List.mem_singleton.mp q
    rw[hsz] at q'
    exact Nat.ne_of_lt (Nat.lt_succ_of_lt hb) q'
  ·exact Nat.le_of_lt (Heap.lt_size hS')
end
end ST
namespace ST
open PySem PySem.SetTable PyProof.Rows L4
section
variable {prog:Program}{w:World}{A:Around}{E:Value->Shared->Prop}{s:Shared}
theorem sorted_set {a:Addr}{es:Array (Int×Value)}{ep:Nat}{t:SetTable}{Q:Value->Shared->Prop}{Out:Array Value->Prop}(hh:A.handled=none) (S:SetAt w s.heap a es ep t) (hz:es.size<=sizeLine)
  (core:∀ s6:Shared,2<=es.size->(∀ b o,s.heap.get? b=some o->s6.heap.get? b=some o)->Core prog w A.in1.in1 E ((comes w a es ep).toList.map (·.2)) Out s6) (short:es.size<2->Out ((comes w a es ep).toList.map (·.2)).toArray)
  (fin:∀ (out:Array Value) (h':Heap) (tk l:Nat),Out out->out.size=es.size->s.heap.objs.size<=l->(∀ b o,s.heap.get? b=some o->h'.get? b=some o)->(∃ e,h'.get? l=some (seqObj "list" out e))->Q (.ref l) { s with heap:=h',toks:=tk }):
  wpAny (model prog w) A (call (.builtin "sorted") [.ref a]) Q E s:=by
 have hcl:((comes w a es ep).toList.map (·.2)).length=es.size:=by
  have:=(comes_perm w a es ep).length_eq
  rw[List.length_map,this,Array.length_toList]
 refine Calls.call_function_entry kind_sorted plain_sorted entry_sorted (args_sorted1 _) ?_
 unfold Builtin.«sorted»
 refine wpAny_bind (m:=checkCount "sorted" 1 1 _) (wpAny_pure (wpAny_bind (collect_set (A:=A.in1) hh S hz λ h1 tk k1 k2=>wpAny_bind (wpAny_newList ?_ (by rw[hcl];exact hz)))))
 generalize hvs:(comes w a es ep).toList.map (·.2)=vs at *
 have hoL:(h1.push (seqObj "list" vs.toArray 0)).get? h1.objs.size=some (seqObj "list" vs.toArray 0):=Heap.get?_push_size _ rfl
 have k3:∀ b o,s.heap.get? b=some o->h1.get? b=some o:=λ b o q=>k1 b o (Heap.lt_size q) q
 show wpAny _ _ _ _ _ { s with heap:=h1.push (seqObj "list" vs.toArray 0),toks:=tk }
 refine wpAny_bind (wpAny_holding (wpAny_call_entry slot_list_sort ⟨_,hoL,rfl⟩ entry_list_sort (list_sort_by hoL (by rw[hcl];exact hz) (λ h2 s6 k=>core s6 (by rw[<- hcl];exact h2) λ b o q=>k b o ?_ (Heap.get?_push_of_some _ (k3 b o q))) (λ h2=>short (by rw[<- hcl];exact h2)) λ out g1 g2=>⟨_,rfl,?_⟩) (args_list_sort _)))
 ·exact Nat.ne_of_lt (Nat.lt_of_lt_of_le (Heap.lt_size q) k2)
 ·refine wpAny_pure ⟨_,rfl,fin out _ tk h1.objs.size g1 (by rw[g2,hcl]) k2 (λ b o q=>?_) (sortedHeap_at (n:=0) hoL)⟩
  have hlt:b<h1.objs.size:=Heap.lt_size (k3 b o q)
  rw[sortedHeap_old (Nat.ne_of_lt hlt) (by rw[size_push'];exact Nat.lt_succ_of_lt hlt),Heap.get?_push_ne _ _ _ (Nat.ne_of_lt hlt)]
  exact k3 b o q
end
end ST
namespace ST
open PySem PySem.SetTable PySem.Spec PyProof.Rows L2
def SetO (w:World) (a:Addr) (us:List Value):Heap->Prop:=λ h=>∃ es ep t,SetAt w h a es ep t/\es.toList.map (·.2)=us
theorem SetO.stay {w:World}{a:Addr}{us:List Value}{h1 h2:Heap}(S:SetO w a us h1) (k:∀ o,h1.get? a=some o->h2.get? a=some o):SetO w a us h2:=by
 obtain⟨es,ep,t,S,e⟩:=S
 exact⟨es,ep,t,S.keep k,e⟩
theorem SetR.at {prog:Program}{w:World}{h:Heap}{a:Addr}{xs:List (List Int×Addr)}(S:SetR prog w h a xs (ledOf w)):SetO w a (xs.map λ e=>Value.ref e.2) h:=by
 obtain⟨⟨es,ep,t,ho,X,h1,h2,h3⟩,_⟩:=S
 exact⟨es,ep,t,⟨ho,X.fits,X.tab.ris,h1,h2⟩,by rw[X.es,List.map_map];rfl⟩
section
variable {X:Cx}
abbrev RowsV (K:PySem.W.Frag) (H:Hp) (ys:List V) (rows:List (List Int)):Prop:=Paired (λ v r=>r≠[]/\∃ b,v=V.ref b/\SqT K H b (r.map V.int)) ys rows
theorem items_of:∀ {ns:List Int}{us:List Value},Vals (ns.map V.int) us->∀ {prog:Program}{w:World},ItemsAre (intKind prog w) ns us
 | [],_,.nil,_,_=>.nil
 | n::ns,_,.cons r t,prog,w=>by
  obtain⟨tk,rfl⟩:=r
  exact .cons (intKind_is _ _ _ _) (items_of t)
structure Pick (ys:List V) (rows:List (List Int)) (vs:List V) (rs:List (List Int)):Prop where
 sub:∀ (i:Nat) v r,vs[i]?=some v->rs[i]?=some r->∃ (j:Nat),ys[j]?=some v/\rows[j]?=some r
 len:vs.length=rs.length
 nd:rs.Nodup
 all:∀ r∈rows,r∈rs
theorem call_setR (hc:X.calm=true) (hu:X.A.units+64<cLine):CallR X (.type "set") (λ xs H Q=>∃ p ys,∃ rows:List (List Int),xs=[.ref p]/\SqL X.K H p ys/\RowsV X.K H ys rows/\rows.length<64/\
  ∀ (l:Addr) (us:List Value) (vs:List V) (rs:List (List Int)),H l=none->Vals vs us->Pick ys rows vs rs->Q (.ref l) (upd H l (.ext (SetO X.w l us)))):=by
 intro pins s σ H xs us Q I r h
 obtain⟨p,ys,rows,rfl,hq,hr,h64,q⟩:=h
 obtain⟨u,rfl,ru⟩:=vals1 r
 cases ru
 obtain⟨its,rv,pl,hz⟩:=I.list hq
 have hl:=rv.length
 have hlr:ys.length=rows.length:=Paired.length hr
 have tups:Tups X.prog X.w s.heap its.toArray rows:=λ i v hv=>by
  have hv':its[i]?=some v:=by simpa using hv
  have hi:i<its.length:=(List.getElem?_eq_some_iff.mp hv').1
  obtain⟨hne,b,hb,hsq⟩:=L4.Paired.at' hr (i:=i) (by omega) V.non ([]:List Int)
  have hy:ys[i]?=some (V.ref b):=by
   rw[List.getElem?_eq_getElem (by omega)]
   have:ys.getD i V.non=ys[i]'(by omega):=by simp[show i<ys.length by omega]
   rw[this] at hb;rw[hb]
  obtain⟨v',e1,e2⟩:=rv.get hy
  rw[hv'] at e1;cases e1
  cases (show v=Value.ref b from e2)
  obtain⟨its2,rv2,⟨o,e,hcl,n,hd⟩,_⟩:=I.tuple hsq
  refine⟨b,rows.getD i [],rfl,?_,o,its2.toArray,n,e,hcl,hd,by simpa using items_of rv2⟩
  simp[show i<rows.length by omega]
 have hh:X.A.handled=none:=I.ok.hd hc
 refine call_set (A:=X.A) hh hu pl.isList tups (by rw[List.size_toArray];omega) λ h' tk xs S U k=>?_
 have kk:∀ b o,s.heap.get? b=some o->h'.get? b=some o:=λ b o e=>k b o (Heap.lt_size e) e
 have hfr:H s.heap.objs.size=none:=I.hok.fresh (Nat.le_refl _)
 have hSO:=S.at
 have vals:Vals (xs.map λ e=>V.ref e.2) (xs.map λ e=>Value.ref e.2):=by
  clear S U hSO
  induction xs with
  | nil=>exact .nil
  | cons e xs ih=>exact .cons rfl ih
 refine⟨.ref s.heap.objs.size,_,I.laid (t':=tk) (o:=.ext (SetO X.w s.heap.objs.size (xs.map λ e=>Value.ref e.2))) kk (Nat.le_refl _) ?_,rfl,q _ _ (xs.map λ e=>V.ref e.2) (xs.map (·.1)) hfr vals ⟨λ i v r hv hr'=>?_,by simp,S.nd,λ r hr'=>?_⟩⟩
 ·obtain⟨es,ep,t,St,e⟩:=id hSO
  exact⟨hSO,⟨_,St.get⟩,λ h1 h2 S1 k=>S1.stay k⟩
 ·rw[List.getElem?_map] at hv hr'
  obtain⟨e,e1,rfl⟩:=Option.map_eq_some_iff.mp hv
  rw[e1] at hr'
  cases hr'
  obtain⟨j,j1,j2,j3⟩:=U.own e (List.mem_of_getElem? e1)
  refine⟨j,?_,j3⟩
  have hj':its[j]?=some (Value.ref e.2):=by simpa using j2
  have hjl:j<ys.length:=by rw[hl];exact (List.getElem?_eq_some_iff.mp hj').1
  obtain⟨v',e2,e3⟩:=rv.get (List.getElem?_eq_getElem hjl)
  rw[hj'] at e2;cases e2
  obtain⟨hne,b,hb,_⟩:=L4.Paired.at' hr (i:=j) (by omega) V.non ([]:List Int)
  have:ys.getD j V.non=ys[j]:=by simp[hjl]
  rw[this] at hb
  rw[hb] at e3
  cases (show Value.ref e.2=Value.ref b from e3)
  rw[List.getElem?_eq_getElem hjl,hb]
 ·obtain⟨j,hj⟩:=List.mem_iff_getElem?.mp hr'
  exact U.all j r (by have:=(List.getElem?_eq_some_iff.mp hj).1;rw[List.size_toArray];omega) hj
theorem Paired.mk {α β:Type}{F:α->β->Prop}:∀ {l:List α}{m:List β},l.length=m.length->(∀ (i:Nat) a b,l[i]?=some a->m[i]?=some b->F a b)->Paired F l m
 | [],[],_,_=>.nil
 | a::l,b::m,h,f=>.cons (f 0 a b rfl rfl) (Paired.mk (by simpa using h) λ i x y hx hy=>f (i+1) x y (by simpa using hx) (by simpa using hy))
 | [],_::_,h,_=>by simp at h
 | _::_,[],h,_=>by simp at h
theorem call_sortedS (hc:X.calm=true):CallR X (.builtin "sorted") (λ xs H Q=>∃ l us vs,∃ rs:List (List Int),xs=[.ref l]/\H l=some (.ext (SetO X.w l us))/\Vals vs us/\RowsV X.K H vs rs/\rs.length<64/\
  ∀ (p:Addr) (idx:List Nat),H p=none->idx.Perm (List.range vs.length)->(idx.map λ i=>rs.getD i []).Pairwise (λ a b=>HT.lexLt b a=false)->Q (.ref p) (upd H p (.lst (idx.map λ i=>vs.getD i .non)))):=by
 intro pins s σ H xs us0 Q I r h
 obtain⟨l,us,vs,rs,rfl,hl,hv,hr,h64,q⟩:=h
 obtain⟨u,rfl,ru⟩:=vals1 r
 cases ru
 obtain⟨⟨es,ep,t,S,eu⟩,-,-⟩:=(show ObjOk X.prog X.w H s.heap l (.ext (SetO X.w l us)) from I.hok l _ hl)
 have hlen:es.size=us.length:=by rw[<- eu];simp
 have hvl:=hv.length
 have hrl:vs.length=rs.length:=Paired.length hr
 have hh:X.A.handled=none:=I.ok.hd hc
 -- the order in which they come
 obtain⟨ix,ix1,ix2⟩:∃ ix:List Nat,ix.Perm (List.range us.length)/\(comes X.w l es ep).toList.map (·.2)=ix.map λ i=>us.getD i Value.none:=by
  have hp:((comes X.w l es ep).toList.map (·.2)).Perm us:=by rw[<- eu];exact (comes_perm X.w l es ep).map _
  generalize (comes X.w l es ep).toList.map (·.2)=cs at hp
  clear eu hl hv hvl hlen
  induction hp with
  | nil=>exact⟨[],.refl _,rfl⟩
  | @cons x a b _ ih=>
   obtain⟨ix,i1,i2⟩:=ih
   refine⟨0::ix.map (· + 1),?_,?_⟩
   ·rw[List.length_cons,List.range_succ_eq_map]
    exact (i1.map _).cons 0
   ·rw[List.map_cons,List.map_map,i2]
    rfl
  | @swap x y a=>
   refine⟨1::0::(List.range a.length).map (· + 2),?_,?_⟩
   ·rw[List.length_cons,List.length_cons,List.range_succ_eq_map,List.range_succ_eq_map,List.map_cons,List.map_map]
    exact .swap _ _ _
   ·rw[List.map_cons,List.map_cons,List.map_map]
    refine congrArg _ (congrArg _ ?_)
    refine List.ext_getElem (by simp) λ i h1 h2=>?_
    simp[h1]
  | @trans a b c _ _ ih1 ih2=>
   obtain⟨i1,p1,e1⟩:=ih1
   obtain⟨i2,p2,e2⟩:=ih2
   have hlb:b.length=c.length:=by rw[e2,List.length_map,p2.length_eq];simp
   refine⟨i1.map λ i=>i2.getD i 0,?_,?_⟩
   ·refine (p1.map _).trans ?_
    have e:(List.range b.length).map (λ i=>i2.getD i 0)=i2:=by
     have hl2:i2.length=b.length:=by rw[p2.length_eq,hlb];simp
     rw[<- hl2]
     refine List.ext_getElem (by simp) λ i h1 h2=>?_
     simp[h2]
    rw[e];exact p2
   ·rw[e1,List.map_map]
    refine List.map_congr_left λ i hi=>?_
    have hi':i<b.length:=by simpa using p1.mem_iff.mp hi
    have hl2:i<i2.length:=by rw[p2.length_eq,<- hlb];simpa using hi'
    show b.getD i _=c.getD (i2.getD i 0) _
    rw[e2]
    simp[hl2]
 have hix:∀ i∈ix,i<us.length:=λ i hi=>by simpa using ix1.mem_iff.mp hi
 have rows_at:∀ h6:Heap,(∀ b o,s.heap.get? b=some o->h6.get? b=some o)->L4.RowsAt h6 ((comes X.w l es ep).toList.map (·.2)) (ix.map λ i=>rs.getD i []):=λ h6 k=>by
  rw[ix2]
  refine Paired.mk (by simp) λ j a b ha hb=>?_
  rw[List.getElem?_map] at ha hb
  obtain⟨i,hi,rfl⟩:=Option.map_eq_some_iff.mp ha
  rw[hi] at hb
  cases hb
  have hil:=hix i (List.mem_of_getElem? hi)
  obtain⟨hne,b,hbv,hsq⟩:=L4.Paired.at' hr (i:=i) (by omega) V.non ([]:List Int)
  obtain⟨u',e1,e2⟩:=hv.get (i:=i) (x:=vs.getD i V.non) (by simp[show i<vs.length by omega])
  rw[hbv] at e2
  cases (show u'=Value.ref b from e2)
  obtain⟨its2,rv2,⟨o,e,hcl,n,hd⟩,_⟩:=I.tuple hsq
  have eg:us.getD i Value.none=Value.ref b:=by simp[e1]
  refine⟨hne,b,o,its2.toArray,n,eg,k _ _ e,hcl,hd,by simpa using intsAre_of rv2⟩
 have hcl:((comes X.w l es ep).toList.map (·.2)).length=us.length:=by rw[ix2,List.length_map,ix1.length_eq];simp
 refine sorted_set (Out:=L4.OutR ((comes X.w l es ep).toList.map (·.2)) (ix.map λ i=>rs.getD i [])) hh S (by rw[hlen];have:sizeLine=16777216:=rfl;omega) (λ s6 h2 k=>L4.core_rows (rows_at _ k) (by rw[hcl,<- hlen];exact h2) (by rw[hcl];omega)) (λ h1=>?_) λ out h' tk p ho hs hp k hat=>?_
 ·refine⟨List.range ((comes X.w l es ep).toList.map (·.2)).length,.refl _,?_,?_⟩
  ·refine List.ext_getElem (by simp) λ i h1 h2=>?_
   simp at h2
   simp[h2]
  ·rw[List.pairwise_map,List.pairwise_iff_getElem]
   intro i j hi hj hij
   rw[hcl] at hi hj
   simp at hi hj
   omega
 ·obtain⟨idx,g1,g2,g3⟩:=ho
  obtain⟨e,he⟩:=hat
  rw[hcl] at g1
  have hfr:H p=none:=I.hok.fresh hp
  have hidx:∀ i∈idx,i<us.length:=λ i hi=>by simpa using g1.mem_iff.mp hi
  have hxl:ix.length=us.length:=by rw[ix1.length_eq];simp
  let jx:=idx.map λ i=>ix.getD i 0
  have hjp:jx.Perm (List.range vs.length):=by
   rw[hvl]
   refine (g1.map _).trans ?_
   have e:(List.range us.length).map (λ i=>ix.getD i 0)=ix:=by
    rw[<- hxl]
    refine List.ext_getElem (by simp) λ i h1 h2=>?_
    simp[h2]
   rw[e];exact ix1
  have hjr:(jx.map λ i=>rs.getD i [])=idx.map λ i=>(ix.map λ i=>rs.getD i []).getD i []:=by
   rw[List.map_map]
   refine List.map_congr_left λ i hi=>?_
   have:=hidx i hi
   simp[show i<ix.length by omega]
  refine⟨.ref p,_,I.laid (t':=tk) (o:=.lst (jx.map λ i=>vs.getD i .non)) k hp ?_,rfl,q p jx hfr hjp (by rw[hjr];exact g3)⟩
  refine⟨by rw[List.length_map,hjp.length_eq,List.length_range];have:sizeLine=16777216:=rfl;omega,out.toList,e,?_,by simpa using he⟩
  rw[g2,ix2]
  refine Paired.mk (by simp[jx]) λ j a b ha hb=>?_
  rw[List.getElem?_map] at ha hb
  obtain⟨i,hi,rfl⟩:=Option.map_eq_some_iff.mp hb
  simp only[jx,List.getElem?_map,hi,Option.map_some,Option.some.injEq] at ha
  have hil:=hidx i (List.mem_of_getElem? hi)
  have hx:ix.getD i 0<us.length:=by
   have:ix.getD i 0∈ix:=by simp[show i<ix.length by omega]
   exact hix _ this
  obtain⟨u',e1,e2⟩:=hv.get (i:=ix.getD i 0) (x:=vs.getD (ix.getD i 0) V.non) (by
   have hx':ix.getD i 0<vs.length:=by omega
   generalize ix.getD i 0=q at hx'
   rw[List.getD_eq_getElem?_getD,List.getElem?_eq_getElem hx'];rfl)
  subst ha
  have e3:(ix.map λ i=>us.getD i Value.none).getD i Value.none=u':=by
   simp[show i<ix.length by omega] at e1 ⊢
   simp[e1]
  rw[e3];exact e2
end
end ST
namespace L5
open PySem PySem.Spec L2 L3
open PyProof.Rows hiding St
noncomputable def nub:List (List Int)->List (List Int)
 | []=>[]
 | r::rs=>if r∈nub rs then nub rs else r::nub rs
theorem mem_nub {r:List Int}:∀ {rs:List (List Int)},r∈nub rs↔r∈rs
 | []=>.rfl
 | x::rs=>by
  unfold nub
  split
  ·rename_i h
   rw[mem_nub,List.mem_cons]
   exact⟨.inr,λ h'=>h'.elim (λ e=>e▸mem_nub.mp h) id⟩
  ·rw[List.mem_cons,List.mem_cons,mem_nub]
theorem nub_nodup:∀ rs:List (List Int),(nub rs).Nodup
 | []=>.nil
 | x::rs=>by
  unfold nub
  split
  ·exact nub_nodup rs
  ·rename_i h
   exact List.nodup_cons.mpr ⟨h,nub_nodup rs⟩
theorem nub_length:∀ rs:List (List Int),(nub rs).length<=rs.length
 | []=>Nat.le_refl _
 | x::rs=>by
  unfold nub
  have:=nub_length rs
  split <;> simp only[List.length_cons] <;> omega
def fSortSet:RDn:=λ ds S Q=>match ds with
 | [.tup _]=>False
 | [d]=>∃ rows:List (List Int),seqOf d S=some (rows.map rowD)/\rows.length<64/\(∀ r∈rows,r≠[])/\∀ l,S l=none->Q (.ref l) (ups S l (.lst ((L4.sortR (nub rows)).map rowD)))
 | _=>False
noncomputable def sortsetS:List T->Option T
 | [.lst ts]=>(rowsT ts).bind λ rs=>if rs.length<64/\∀ r∈rs,r≠[] then some (.lst ((L4.sortR (nub rs)).map rowT)) else none
 | _=>none
theorem good_sortset:GoodN RkF sortsetS fSortSet:=λ S Z ys z ds Q hz hv e hq=>by
 unfold sortsetS at e
 split at e
 ·obtain⟨d,rfl,h1⟩:=vws1 hv
  obtain⟨rs,e1,e2⟩:=Option.bind_eq_some_iff.mp e
  split at e2
  ·rename_i hc
   cases e2
   cases rowsT_some e1
   obtain⟨es,h2,h3⟩:=h1.seq rfl
   cases sns_rows.mp h3
   have key:∃ rows:List (List Int),seqOf d S=some (rows.map rowD)/\rows.length<64/\(∀ r∈rows,r≠[])/\∀ l,S l=none->Q (.ref l) (ups S l (.lst ((L4.sortR (nub rows)).map rowD))):=
    ⟨rs,h2,hc.1,hc.2,λ l hl=>hq _ _ (.new hl _) (rkF_new hz hl (sns_rows.mpr rfl))⟩
   obtain⟨_,q | ⟨a,q,_⟩,_⟩:=h1.lst
   ·subst q;exact key
   ·subst q;exact key
  ·cases e2
 ·cases e
section
variable {X:Cx}{K:PySem.W.Frag}{e:Expr}{tA:TDA}{pos pos2 p p2:Pos}
theorem fSortSet.mo:MoN fSortSet:=λ ds S Q Q' hq h=>by
 unfold fSortSet at h ⊢
 split at h
 ·exact h.elim
 ·obtain⟨rows,h1,h2,h3,h4⟩:=h
  exact⟨rows,h1,h2,h3,λ l hl=>hq _ _ (h4 l hl)⟩
 ·exact h.elim
theorem RepDs.pick {H:Hp}{ys vs:List V}{rows rs:List (List Int)}(h:RepDs K H (rows.map rowD) ys) (P:ST.Pick ys rows vs rs):RepDs K H (rs.map rowD) vs:=by
 have key:∀ (vs:List V) (rs:List (List Int)),vs.length=rs.length->(∀ (i:Nat) v r,vs[i]?=some v->rs[i]?=some r->∃ (j:Nat),ys[j]?=some v/\rows[j]?=some r)->RepDs K H (rs.map rowD) vs:=by
  intro vs
  induction vs with
  | nil=>intro rs hl _;cases rs with
   | nil=>exact .nil
   | cons _ _=>simp at hl
  | cons v vs ih=>intro rs hl hp;cases rs with
   | nil=>simp at hl
   | cons r rs=>
    refine .cons ?_ (ih rs (by simpa using hl) λ i v r hv hr=>hp (i+1) v r (by simpa using hv) (by simpa using hr))
    obtain⟨j,j1,j2⟩:=hp 0 v r rfl rfl
    obtain⟨x,e1,e2⟩:=h.get (i:=j) (d:=rowD r) (by rw[List.getElem?_map,j2];rfl)
    rw[j1] at e1;cases e1
    exact e2
 exact key vs rs P.len P.sub
theorem Pick.mem {ys vs:List V}{rows rs:List (List Int)}(P:ST.Pick ys rows vs rs) {r:List Int}:r∈rs↔r∈rows:=by
 refine⟨λ h=>?_,P.all r⟩
 obtain⟨i,hi⟩:=List.mem_iff_getElem?.mp h
 have hl:i<vs.length:=by rw[P.len];exact (List.getElem?_eq_some_iff.mp hi).1
 obtain⟨j,_,j2⟩:=P.sub i _ r (List.getElem?_eq_getElem hl) hi
 exact List.mem_of_getElem? j2
theorem fSortSet.fits {w:World}:FitsN K fSortSet (λ xs H Q=>∃ p ys,∃ rows:List (List Int),xs=[.ref p]/\SqL K H p ys/\ST.RowsV K H ys rows/\rows.length<64/\
  ∀ (l:Addr) (us:List Value) (vs:List V) (rs:List (List Int)),H l=none->Vals vs us->ST.Pick ys rows vs rs->
   ∃ l' us' vs',∃ rs':List (List Int),[V.ref l]=[.ref l']/\(upd H l (.ext (ST.SetO w l us))) l'=some (.ext (ST.SetO w l' us'))/\Vals vs' us'/\ST.RowsV K (upd H l (.ext (ST.SetO w l us))) vs' rs'/\rs'.length<64/\
    ∀ (p:Addr) (idx:List Nat),(upd H l (.ext (ST.SetO w l us))) p=none->idx.Perm (List.range vs'.length)->(idx.map λ i=>rs'.getD i []).Pairwise (λ a b=>HT.lexLt b a=false)->Q (.ref p) (upd (upd H l (.ext (ST.SetO w l us))) p (.lst (idx.map λ i=>vs'.getD i .non)))):=λ xs ds H S Q h0 h2 h=>by
 unfold fSortSet at h
 split at h
 ·exact h.elim
 ·rename_i d hn
  obtain⟨x,hx,h1⟩:=h0.one;subst hx
  obtain⟨rows,e,h64,hne,h⟩:=h
  obtain⟨a,ys,rfl,g1,g2⟩:=seq_sqL h1 h2 e (λ ts z=>hn ts z)
  refine⟨a,ys,rows,rfl,g1,rows_paired g2 hne,h64,λ l us vs rs hf hv P=>?_⟩
  have g3:=RepDs.pick g2 P
  have x1:Ext H (upd H l (.ext (ST.SetO w l us))):=.new hf _
  have hper:rs.Perm (nub rows):=(List.perm_ext_iff_of_nodup P.nd (nub_nodup rows)).mpr λ r=>by rw[Pick.mem P,mem_nub]
  refine⟨l,us,vs,rs,rfl,upd_same,hv,rows_paired (RepDs.ext x1 _ g3) λ r hr=>hne r ((Pick.mem P).mp hr),by rw[hper.length_eq];have:=nub_length rows;omega,λ p idx hp hi hs=>?_⟩
  rw[P.len] at hi
  have heq:=L4.sortR_unique ((map_getD_perm hi).trans hper) hs
  have hpl:p≠l:=λ z=>by subst z;rw[upd_same] at hp;cases hp
  have hpH:H p=none:=by rw[upd_ne hpl] at hp;exact hp
  have x2:Ext (upd H l (.ext (ST.SetO w l us))) (upd (upd H l (.ext (ST.SetO w l us))) p (.lst (idx.map λ i=>vs.getD i .non))):=.new hp _
  have r1:RepH K (upd H l (.ext (ST.SetO w l us))) S:=h2.new hf
  refine h p (h2.none hpH) _ _ (by simp only[RepD]) (x1.trans x2) (r1.ups x2 ⟨_,upd_same,?_⟩)
  rw[<- heq]
  exact RepDs.ext (x1.trans x2) _ (RepDs.perm g3 λ i h=>by simpa using hi.mem_iff.mp h)
 ·exact h.elim
end
end L5
namespace ST
open PySem PySem.SetTable PyProof.Rows
theorem go_free {t:SetTable}{hs:List Int}(T:Tab t hs) (h:Int):∀ (f k K:Nat),k<=K->K<k+f->(way t.mask h K).j∉t.place.toList->(∀ m<K,(way t.mask h m).j∈t.place.toList)->probe.go t (λ _=>h+1) h f (way t.mask h k)=some (.empty (way t.mask h K).j none)
 | 0,k,K,h1,h2,_,_=>by omega
 | f+1,k,K,h1,h2,h3,h4=>by
  by_cases e:k=K
  ·subst e
   unfold probe.go
   rw[T.empty h3,way_dummy]
  ·obtain⟨i,g,p1,_⟩:=T.at (h4 k (by omega))
   have ih:=go_free T h f (k+1) K (by omega) (by omega) h3 h4
   conv=>lhs;unfold probe.go
   rw[T.live p1]
   dsimp only
   rw[if_neg (by intro q;have:=eq_of_beq q;omega),adv_eq]
   exact ih
theorem free_is {t:SetTable}{hs:List Int}(T:Tab t hs) (hl:hs.length<=t.mask) (h:Int):∃ j,t.freeSlot h=some (j,false)/\Free t h j:=by
 obtain⟨K,k1,k2,k3⟩:=T.first hl h
 refine⟨(way t.mask h K).j,?_,⟨k2,K,rfl,k3⟩⟩
 have g:=go_free T h (10*turns t.mask) 0 K (Nat.zero_le _) (by unfold turns;omega) k2 k3
 unfold SetTable.freeSlot
 have e:t.probe (λ _=>h+1) h (t.probeStart h)=some (.empty (way t.mask h K).j none):=g
 rw[e]
 rfl
structure SetI (prog:Program) (w:World) (h:Heap) (a:Addr) (xs:List (Int×Tok)) (led:Bool):Prop where
 ex:∃ es ep t,h.get? a=some { cls:=.type "set",dict:=none,data:=.set es ep t }/\es.toList=xs.map (λ e=>((intKind prog w).hash e.1,Value.int e.1 e.2))/\Tab t (xs.map λ e=>(intKind prog w).hash e.1)/\t.led=led/\t.plain=true/\xs.length*5<t.mask*3
 nd:(xs.map (·.1)).Nodup
section
variable {prog:Program}{w:World}{A:Around}{E:Value->Shared->Prop}{s:Shared}
theorem fits_of {es:Array (Int×Value)}{t:SetTable}{hs:List Int}{n:Nat}(h1:es.size=n) (T:Tab t hs) (h2:hs.length=n) (h3:n<=t.mask):t.fits es.size=true:=by
 have l:=T.len
 unfold SetTable.fits SetTable.fill
 rw[T.dum,h1,l,h2]
 simp
 omega
theorem is_int {n m:Int}{t:Tok}:(intKind prog w).is n (.int m t)=true↔n=m:=by
 constructor
 ·intro h
  obtain⟨t',e⟩:=Value.isInt_shape (show Value.isInt n (.int m t)=true from h)
  cases e;rfl
 ·rintro rfl;exact intKind_is _ _ _ _
theorem elems_int {es:Array (Int×Value)}{xs:List (Int×Tok)}(h:es.toList=xs.map (λ e=>((intKind prog w).hash e.1,Value.int e.1 e.2))):ElemsOf (intKind prog w) es.toList:=λ e he=>by
 rw[h] at he
 obtain⟨x,_,rfl⟩:=List.mem_map.mp he
 exact⟨⟨x.1,is_int.mpr rfl,rfl⟩,rfl⟩
theorem relay_int {es:Array (Int×Value)}{t:SetTable}{xs:List (Int×Tok)}{M wanted:Nat}(he:es.toList=xs.map (λ e=>((intKind prog w).hash e.1,Value.int e.1 e.2))) (hM:Mok M) (hw:sizeAbove wanted=M+1) (hfew:xs.length*5<M*3):
  ∃ es' t',∃ xs':List (Int×Tok),relayAll t es wanted=(es',t',false)/\es'.toList=xs'.map (λ e=>((intKind prog w).hash e.1,Value.int e.1 e.2))/\xs'.Perm xs/\Tab t' (xs'.map λ e=>(intKind prog w).hash e.1)/\t'.mask=M/\t'.led=t.led/\t'.plain=t.plain/\es'.size=es.size:=by
 have hlen:es.size=xs.length:=by have:=congrArg List.length he;simpa using this
 have hhs:(es.map (·.1)).toList=xs.map λ e=>(intKind prog w).hash e.1:=by rw[Array.toList_map,he,List.map_map];rfl
 have hsz:(es.map (·.1)).size=xs.length:=by rw[Array.size_map,hlen]
 obtain⟨t',order,h1,h2,h3,h4,h5,h6,h7⟩:=laid_spec hM t.finger (t.movedTo M) t.led t.plain (es.map (·.1)) (by rw[hsz];omega)
 rw[hsz] at h6
 have hlt:∀ k∈order.toList,k<xs.length:=λ k hk=>by simpa using h6.mem_iff.mp hk
 have hr:t.relaid (es.map (·.1)) wanted=some (t',order):=by
  unfold SetTable.relaid
  rw[hw,Nat.add_sub_cancel];exact h1
 have hes':(order.filterMap (es[·]?)).toList=(order.toList.filterMap λ k=>xs[k]?).map λ e=>((intKind prog w).hash e.1,Value.int e.1 e.2):=by
  rw[Array.toList_filterMap,List.map_filterMap]
  congr 1
  funext k
  rw[<- Array.getElem?_toList,he,List.getElem?_map]
 have hperm:(order.toList.filterMap λ k=>xs[k]?).Perm xs:=(h6.filterMap _).trans (by rw[List.filterMap_getElem?_range_length])
 have hsz':(order.filterMap (es[·]?)).size=es.size:=by
  rw[<- Array.length_toList,hes',List.length_map,hperm.length_eq,hlen]
 have hT:Tab t' ((order.toList.filterMap λ k=>xs[k]?).map λ e=>(intKind prog w).hash e.1):=by
  rw[<- pick_map xs (λ e=>(intKind prog w).hash e.1) 0 order.toList hlt,<- hhs]
  exact h7
 refine⟨_,t',_,?_,hes',hperm,hT,h2,h4,h5,hsz'⟩
 have cov:coversAll order es.size=true:=by
  unfold coversAll
  rw[List.isPerm_iff,hlen]
  exact h6
 have fit:t'.fits (order.filterMap (es[·]?)).size=true:=fits_of (n:=xs.length) (by rw[hsz',hlen]) hT (by rw[List.length_map,hperm.length_eq]) (by rw[h2];omega)
 unfold relayAll
 rw[hr]
 dsimp only
 rw[cov,fit]
 rfl
theorem add_int {a:Addr}{xs:List (Int×Tok)}{n:Int}{tk:Tok}{led:Bool}{Q:Bool->Shared->Prop}(S:SetI prog w s.heap a xs led) (hn:xs.length<70)
  (h:∀ h' xs' r,Heap.SameBut a s.heap h'->SetI prog w h' a xs' led->(n∈xs.map (·.1)/\xs'=xs\/n∉xs.map (·.1)/\xs'.Perm (xs++[(n,tk)]))->Q r { s with heap:=h' }):
  wpAny (model prog w) A (setAddHashed a (.int n tk) ((intKind prog w).hash n)) Q E s:=by
 have S0:=S
 obtain⟨⟨es,ep,t,ho,he,T,hled,hpl,hfew⟩,hnd⟩:=S
 have hlen:es.size=xs.length:=by have:=congrArg List.length he;simpa using this
 have hm7:7<=t.mask/\t.mask<=127:=by rcases T.mask with e | e | e <;> omega
 have fit:t.fits es.size=true:=fits_of (n:=xs.length) hlen T (by simp) (by omega)
 have hel:=elems_int (prog:=prog) (w:=w) he
 unfold setAddHashed setAddHashedIn
 refine wpAny_holding (wpAny_bind (wpAny_setState_of ho rfl fit ?_))
 dsimp only
 have bs:byScan (.int n tk) es=true:=by
  have h1:decide (es.size<scanBound)=true:=decide_eq_true (by unfold scanBound;omega)
  have h2:es.all (·.2.scannable)=true:=by
   rw[Array.all_eq_true_iff_forall_mem]
   intro e hm
   exact (hel e (by simpa using hm)).2
  unfold byScan
  rw[h1,h2]
  rfl
 rw[if_pos bs]
 refine wpAny_bind ?_
 unfold setAddByScan
 refine wpAny_bind (wpAny_rule (wpAny_bind (wpAny_setScan_of (k:=n) (is_int.mpr rfl) ho rfl fit hel ?_)))
 have hfind:(es.toList.findIdx? (λ e=>(intKind prog w).is n e.2)).isSome=true↔n∈xs.map (·.1):=by
  rw[he,List.findIdx?_isSome,List.any_eq_true]
  constructor
  ·rintro⟨e,hm,q⟩
   obtain⟨x,hx,rfl⟩:=List.mem_map.mp hm
   exact List.mem_map.mpr ⟨x,hx,(is_int.mp q).symm⟩
  ·intro hm
   obtain⟨x,hx,rfl⟩:=List.mem_map.mp hm
   exact⟨_,List.mem_map.mpr ⟨x,hx,rfl⟩,is_int.mpr rfl⟩
 cases hc:es.toList.findIdx? (λ e=>(intKind prog w).is n e.2) with
 | some j=>
  dsimp only
  have hm:=hfind.mp (by rw[hc];rfl)
  refine wpAny_pure ?_
  dsimp only
  exact wpAny_pure (h s.heap xs false ⟨rfl,λ _ _=>rfl⟩ S0 (.inl ⟨hm,rfl⟩))
 | none=>
  dsimp only
  have hm:n∉xs.map (·.1):=λ q=>by have:=hfind.mpr q;rw[hc] at this;cases this
  obtain⟨j,fs,F⟩:=free_is T (by rw[List.length_map];omega) ((intKind prog w).hash n)
  obtain⟨p1,p2,p3⟩:=T.put F
  rw[List.length_map] at p1
  have hpt:(t.put j).1.plain=true:=by rw[p2];exact hpl
  have hmt:(t.put j).1.mask=t.mask:=by rw[p2]
  have hlt:(t.put j).1.led=led:=by rw[p2];exact hled
  generalize hT:(t.put j)=P at *
  obtain⟨t1,p⟩:=P
  dsimp only at *
  let xs1:=xs.take p++(n,tk)::xs.drop p
  have hperm:xs1.Perm (xs++[(n,tk)]):=by
   have e:xs.take p++xs.drop p=xs:=List.take_append_drop p xs
   have:xs1.Perm ((n,tk)::(xs.take p++xs.drop p)):=List.perm_middle
   rw[e] at this
   exact this.trans (List.perm_append_singleton _ _).symm
  have hl1:xs1.length=xs.length+1:=by rw[hperm.length_eq];simp
  have hes1:(insertAt es p ((intKind prog w).hash n,Value.int n tk)).toList=xs1.map λ e=>((intKind prog w).hash e.1,Value.int e.1 e.2):=by
   rw[toList_insertAt,he]
   simp[xs1,List.map_take,List.map_drop]
  have hsz1:(insertAt es p ((intKind prog w).hash n,Value.int n tk)).size=xs.length+1:=by rw[<- Array.length_toList,hes1,List.length_map,hl1]
  have T1:Tab t1 (xs1.map λ e=>(intKind prog w).hash e.1):=by
   have:xs1.map (λ e=>(intKind prog w).hash e.1)=(xs.map λ e=>(intKind prog w).hash e.1).take p++(intKind prog w).hash n::(xs.map λ e=>(intKind prog w).hash e.1).drop p:=by simp[xs1,List.map_take,List.map_drop]
   rw[this];exact p3
  have fit1:t1.fits (insertAt es p ((intKind prog w).hash n,Value.int n tk)).size=true:=fits_of (n:=xs.length+1) hsz1 T1 (by rw[List.length_map,hl1]) (by rw[hmt];omega)
  have hlay:layNew t es ((intKind prog w).hash n) (.int n tk)=(insertAt es p ((intKind prog w).hash n,Value.int n tk),t1,false,false):=by
   unfold layNew
   rw[fs]
   dsimp only
   rw[hT]
   dsimp only
   unfold SetTable.orStandIn
   rw[fit1]
   rfl
  have hsl:(insertAt es p ((intKind prog w).hash n,Value.int n tk)).size<=sizeLine:=by
   rw[hsz1]
   have:sizeLine=16777216:=rfl
   omega
  have hnd1:(xs1.map (·.1)).Nodup:=by
   refine (hperm.map _).nodup_iff.mpr ?_
   rw[List.map_append,List.nodup_append]
   refine⟨hnd,by simp,λ x hx y hy=>?_⟩
   simp at hy
   subst hy
   exact λ e=>hm (e▸hx)
  have ho1:=put_get (es':=insertAt es p ((intKind prog w).hash n,Value.int n tk)) (t':=t1) ho
  have sb:=Heap.SameBut.update s.heap a (Obj.putSet (insertAt es p ((intKind prog w).hash n,Value.int n tk)) t1)
  have hfill:t1.fill=xs.length+1:=by
   have l:=T1.len
   rw[List.length_map,hl1] at l
   unfold SetTable.fill
   rw[T1.dum,l]
   simp
  rw[hlay]
  dsimp only
  refine wpAny_bind (m:=pure ()) (wpAny_pure ?_)
  rw[hpt]
  simp only[if_true]
  refine wpAny_bind (m:=pure true) (wpAny_pure ?_)
  simp only[if_true]
  refine wpAny_bind (wpAny_storeSet_of ho rfl ?_ hsl)
  by_cases hf:t1.tooFull=true
  ·rw[hf]
   simp only[Bool.not_false,Bool.and_self,if_true]
   have hfull:t.mask*3<=(xs.length+1)*5:=by
    have:=hf
    unfold SetTable.tooFull at this
    rw[hfill,hmt] at this
    simpa using this
   obtain⟨M',g1,g2,g3⟩:=sizes xs.length t.mask T.mask hfew hfull hn
   obtain⟨es2,t2,xs2,r1,r2,r3,r4,r5,r6,r7,r8⟩:=relay_int (prog:=prog) (w:=w) (t:=t1) hes1 g1 (wanted:=grown (insertAt es p ((intKind prog w).hash n,Value.int n tk)).size) (by rw[hsz1];exact g2) (by rw[hl1];exact g3)
   rw[r1]
   dsimp only
   refine wpAny_bind (m:=pure ()) (wpAny_pure (wpAny_bind (wpAny_storeSet_of ho1 rfl ?_ (by rw[r8];exact hsl))))
   refine wpAny_pure ?_
   dsimp only
   refine wpAny_pure (h _ xs2 true (sb.trans (Heap.SameBut.update _ a _)) ⟨⟨es2,ep+1+1,t2,put_get ho1,r2,r4,by rw[r6];exact hlt,by rw[r7];exact hpt,by rw[r3.length_eq,hl1,r5];exact g3⟩,(r3.map _).nodup_iff.mpr hnd1⟩ (.inr ⟨hm,r3.trans hperm⟩))
  ·have hf':t1.tooFull=false:=by simpa using hf
   rw[hf']
   simp only[Bool.not_false,Bool.and_false,Bool.false_eq_true,if_false]
   have hfull:(xs.length+1)*5<t.mask*3:=by
    have:=hf'
    unfold SetTable.tooFull at this
    rw[hfill,hmt] at this
    simpa using this
   refine wpAny_pure ?_
   dsimp only
   exact wpAny_pure (h _ xs1 true sb ⟨⟨_,ep+1,t1,ho1,hes1,T1,hlt,hpt,by rw[hl1,hmt];exact hfull⟩,hnd1⟩ (.inr ⟨hm,hperm⟩))
end
end ST
namespace ST
open PySem PySem.SetTable PyProof.Rows
structure UpI (its:Array Value) (ns:List Int) (i:Nat) (xs:List (Int×Tok)):Prop where
 own:∀ e∈xs,∃ j,j<i/\ns[j]?=some e.1
 all:∀ (j:Nat) r,j<i->ns[j]?=some r->r∈xs.map (·.1)
theorem nodup_sub:∀ (l m:List Int),l.Nodup->(∀ x∈l,x∈m)->l.length<=m.length
 | [],m,_,_=>Nat.zero_le _
 | x::l,m,hn,hs=>by
  have h1:=List.nodup_cons.mp hn
  have hx:=hs x List.mem_cons_self
  have:=nodup_sub l (m.erase x) h1.2 λ z hz=>(List.mem_erase_of_ne (λ e:z=x=>h1.1 (by rw[<- e];exact hz))).mpr (hs z (List.mem_cons_of_mem _ hz))
  rw[List.length_erase_of_mem hx] at this
  have:=List.length_pos_of_mem hx
  simp only[List.length_cons];omega
theorem UpI.len {its:Array Value}{ns:List Int}{i:Nat}{xs:List (Int×Tok)}(U:UpI its ns i xs) (nd:(xs.map (·.1)).Nodup):xs.length<=i:=by
 have:=nodup_sub (xs.map (·.1)) ((List.range i).map λ j=>ns.getD j 0) nd λ x hx=>by
  obtain⟨e,he,rfl⟩:=List.mem_map.mp hx
  obtain⟨j,h1,h3⟩:=U.own e he
  exact List.mem_map.mpr ⟨j,List.mem_range.mpr h1,by rw[List.getD_eq_getElem?_getD,h3];rfl⟩
 simpa using this
theorem UpI.step {its:Array Value}{ns:List Int}{i:Nat}{xs xs':List (Int×Tok)}{n:Int}{t:Tok}(U:UpI its ns i xs) (hr:ns[i]?=some n)
  (h:n∈xs.map (·.1)/\xs'=xs\/n∉xs.map (·.1)/\xs'.Perm (xs++[(n,t)])):UpI its ns (i+1) xs':=by
 have eqi:∀ j:Nat,j<i+1->¬ j<i->j=i:=λ j a b=>by omega
 rcases h with ⟨hm,rfl⟩ | ⟨_,hp⟩
 ·refine⟨λ e he=>?_,λ j r hj hrj=>?_⟩
  ·obtain⟨j,h1,h2⟩:=U.own e he
   exact⟨j,Nat.lt_succ_of_lt h1,h2⟩
  ·by_cases q:j<i
   ·exact U.all j r q hrj
   ·rw[eqi j hj q,hr] at hrj;cases hrj;exact hm
 ·refine⟨λ e he=>?_,λ j r hj hrj=>?_⟩
  ·rcases List.mem_append.mp (hp.mem_iff.mp he) with q | q
   ·obtain⟨j,h1,h2⟩:=U.own e q
    exact⟨j,Nat.lt_succ_of_lt h1,h2⟩
   ·cases List.mem_singleton.mp q
    exact⟨i,Nat.lt_succ_self i,hr⟩
  ·rw[(hp.map (·.1)).mem_iff,List.map_append]
   by_cases q:j<i
   ·exact List.mem_append_left _ (U.all j r q hrj)
   ·rw[eqi j hj q,hr] at hrj;cases hrj
    exact List.mem_append_right _ List.mem_cons_self
def Nums (its:Array Value) (ns:List Int):Prop:=∀ (i:Nat) v,its[i]?=some v->∃ n t,v=.int n t/\ns[i]?=some n
section
variable {prog:Program}{w:World}{A:Around}{R:Result->Shared->Prop}{I:Addr}{fp wr:List Addr}{G:Array GenState->Array GenState->Prop}{n:Nat}{P:Nat->Value->Prop}{St:Nat->Shared->Prop}
theorem SetI.keep {h h':Heap}{a:Addr}{xs:List (Int×Tok)}{led:Bool}(S:SetI prog w h a xs led) (k:∀ o,h.get? a=some o->h'.get? a=some o):SetI prog w h' a xs led:=
 let ⟨⟨es,ep,t,ho,r⟩,nd⟩:=S;⟨⟨es,ep,t,k _ ho,r⟩,nd⟩
theorem loop_ints (W:WalksS prog w A.in1 I fp wr G n (λ i v=>P i v) St) (Sa:Addr) (hSf:Sa∉fp) {its:Array Value}{ns:List Int}(hP:∀ i v,P i v->its[i]?=some v) (hn:n<70) (led:Bool) (hN:Nums its ns):
  ∀ (k i:Nat) (s:Shared) (xs:List (Int×Tok)),n-i=k->i<=n->St i s->SetI prog w s.heap Sa xs led->UpI its ns i xs->
   (∀ s' xs',Moved (Sa::wr) G s s'->SetI prog w s'.heap Sa xs' led->UpI its ns n xs'->R (.ok (.ret .none)) s')->
   codeAny (model prog w) A (.builtin "set.update.loop" ⟨[.ref Sa,.ref I],[]⟩) R s:=by
 have hSw:Sa∉wr:=λ z=>hSf (W.sub _ z)
 have more:∀ b∈wr,b∈Sa::wr:=λ b hb=>List.mem_cons_of_mem _ hb
 intro k
 induction k with
 | zero=>
  intro i s xs hk hi hst hS hU hR
  have e:i=n:=by omega
  subst e
  refine codeAny_builtin F.entry_set_update_loop ?_
  rw[Around.under_plainId F.plain_set_update_loop _]
  show wpAny _ A.in1 (pyNext (.ref I) >>= _) _ _ s
  exact wpAny_bind (W.done s _ _ hst λ s' hm=>wpAny_pure (hR s' xs (hm.mono more) (hS.keep λ o e=>hm.heap _ o hSw e) hU))
 | succ k ih=>
  intro i s xs hk hi hst hS hU hR
  have hlt:i<n:=by omega
  refine codeAny_builtin F.entry_set_update_loop ?_
  rw[Around.under_plainId F.plain_set_update_loop _]
  show wpAny _ A.in1 (pyNext (.ref I) >>= _) _ _ s
  refine wpAny_bind (W.item i s _ _ hlt hst λ v s1 hPv hst1 hm=>?_)
  obtain⟨m,t,rfl,hr⟩:=hN i v (hP i v hPv)
  have S1:SetI prog w s1.heap Sa xs led:=hS.keep λ o e=>hm.heap _ o hSw e
  have hl:xs.length<70:=by have:=hU.len hS.nd;omega
  show wpAny _ A.in1 (holding [Value.int m t] (setAdd Sa (.int m t)) >>= _) _ _ s1
  refine wpAny_bind (wpAny_holding ?_)
  unfold setAdd
  refine wpAny_holding (wpAny_bind ((intKind prog w).pyHash (A:=A.in1) (k:=m) (is_int.mpr rfl) ?_))
  refine add_int (s:={ s1 with toks:=s1.toks+1 }) (A:=A.in1) S1 hl λ h' xs' rr sb S' hx=>?_
  have fr:=W.frame (i+1) s1 h' (s1.toks+1) hst1 (Nat.le_add_right _ _) λ c hc o e=>(sb.2 c (λ z:c=Sa=>hSf (z▸hc))).trans e
  refine wpAny_pure ⟨plainId_quiet F.plain_set_update_loop _,ih (i+1) _ xs' (by omega) hlt fr S' (hU.step hr hx) λ s2 xs2 hm2 S2 U2=>?_⟩
  refine hR s2 xs2 (Moved.trans W.gtrans ((hm.mono more).then_heap (Nat.le_add_right _ _) λ c o hc e=>?_) hm2) S2 U2
  exact (sb.2 c (λ z=>hc (z▸List.mem_cons_self))).trans e
end
end ST
namespace ST
open PySem PySem.SetTable PyProof.Rows
section
variable {prog:Program}{w:World}{A:Around}{E:Value->Shared->Prop}{s:Shared}
theorem set0_ints {h:Heap}{a:Addr}(ho:h.get? a=some (set0 w)):SetI prog w h a [] (ledOf w):=
 ⟨⟨#[],0,_,ho,rfl,⟨.inl rfl,rfl,rfl,.nil,λ j hj=>(by cases hj),λ i g j hg=>(by cases hg)⟩,rfl,rfl,by show 0*5<7*3;omega⟩,.nil⟩
set_option maxRecDepth 100000 in
set_option maxHeartbeats 6400000 in
theorem call_setI {l:Addr}{its:Array Value}{ns:List Int}{Q:Value->Shared->Prop}(hh:A.handled=none) (hl:s.heap.IsList l its) (hT:Nums its ns) (hn:its.size<70)
  (h:∀ (h':Heap) (tk:Nat) xs,SetI prog w h' s.heap.objs.size xs (ledOf w)->UpI its ns its.size xs->(∀ b o,b<s.heap.objs.size->s.heap.get? b=some o->h'.get? b=some o)->Q (.ref s.heap.objs.size) { s with heap:=h',toks:=tk }):
  wpAny (model prog w) A (call (.type "set") [.ref l]) Q E s:=by
 obtain⟨c,tl,hmro⟩:=F.called_set.mro
 have made:=F.called_set.made
 have subm:=F.called_set.sub
 refine wpAny_call (codeAny_of_tree ?_)
 show wpAny _ _ (callAny (.type "set") _) _ _ _
 refine wpAny_pure ⟨Code.quiet_builtin _ (by decide +kernel),codeAny_builtin F.entry_type_call ?_⟩
 rw[Around.under_plain (weight_type_call_type "set" [.ref l] []) rfl]
 have nt:=F.called_set.notType
 have cc:=F.called_set.canCreate
 have tc:=F.typeCall_set_1 (.ref l)
 repeat (any_goals (first | assumption | wp_step))
 refine codeAny_mono (code_new (.ref l) (E:=E) (Q:=λ obj s₁=>obj=.ref s.heap.objs.size/\s₁={ s with heap:=s.heap.push (set0 w) }) ⟨rfl,rfl⟩) λ r s₁ hr=>?_
 cases r with
 | error e=>exact hr
 | ok fl=>
  cases fl with
  | ret obj=>
   obtain⟨rfl,rfl⟩:=hr
   have hS:(s.heap.push (set0 w)).get? s.heap.objs.size=some (set0 w):=Heap.get?_push_size _ rfl
   have hTy:Shared.TypeIs { s with heap:=s.heap.push (set0 w) } (.ref s.heap.objs.size) "set":=⟨_,hS,rfl⟩
   have li:=F.called_set.init.lookup
   have bi:=F.called_set.init.bind (.ref s.heap.objs.size)
   repeat (any_goals (first | assumption | wp_step))
   let s1:Shared:={ s with heap:=s.heap.push (set0 w) }
   refine codeAny_mono (codeAny_call_builtin (R:=wants (λ r s₂=>r=.none/\∃ h' tk xs,s₂={ s with heap:=h',toks:=tk }/\SetI prog w h' s.heap.objs.size xs (ledOf w)/\UpI its ns its.size xs/\
     ∀ b o,b<s.heap.objs.size->s.heap.get? b=some o->h'.get? b=some o) E) F.called_set.init.plain F.entry_set_init (check_set_init_1 hTy ?_)) λ r₂ s₂ hr₂=>?_
   ·obtain⟨⟨ocls,odict,odata,oslots⟩,hol,hcl,nl,hdl⟩:=id hl
    simp only at hcl hdl
    subst hcl hdl
    have hol1:(s.heap.push (set0 w)).get? l=some { cls:=.type "list",dict:=odict,data:=.seq its nl,slots:=oslots }:=Heap.get?_push_of_some _ hol
    have sls:=F.sub_list_set
    have slf:=F.sub_list_frozenset
    have nd:(Value.type "list" == Value.type "dict")=false:=by decide
    have hl1:(s.heap.push (set0 w)).IsList l its:=⟨_,hol1,rfl,nl,rfl⟩
    unfold Builtin.«set.__init__» noKeywords Builtin.Frozenset.updateFrom
    generalize hPI:pyIter=PI
    unfold set0 at *
    wp_walk
    subst hPI
    refine wpAny_pyIter_list hl1 (wpAny_bind (wpAny_runValue ?_))
    have hlS:l<s.heap.objs.size:=Heap.lt_size hol
    have hsz:(s.heap.push (set0 w)).objs.size=s.heap.objs.size+1:=Heap.size_push _ _
    have hneI:l≠(s.heap.push (set0 w)).objs.size:=by rw[hsz];exact Nat.ne_of_lt (Nat.lt_succ_of_lt hlS)
    have szne:s.heap.objs.size≠(s.heap.push (set0 w)).objs.size:=by rw[hsz];exact Nat.ne_of_lt (Nat.lt_succ_self _)
    have low:∀ b:Addr,b<s.heap.objs.size->b≠(s.heap.push (set0 w)).objs.size:=λ b hb=>by rw[hsz];exact Nat.ne_of_lt (Nat.lt_succ_of_lt hb)
    refine loop_ints (A:=A.in1.in1) (P:=λ i v=>its[i]?=some v) ((Walks.list (A:=A.in1.in1.in1) (by simp[hh]) _ l hneI its).toS) s.heap.objs.size ?_ (its:=its) (ns:=ns) (λ _ _ q=>q) hn (ledOf w) hT its.size 0 _ [] (by omega) (Nat.zero_le _)
     ⟨⟨_,Heap.get?_push_size _ rfl,rfl,rfl⟩,hl1.push _⟩ (set0_ints (w:=w) (Heap.get?_push_of_some _ hS)) ⟨λ e he=>(by cases he),λ j r hj=>(by omega)⟩ ?_
    ·intro hm
     rcases List.mem_cons.mp hm with q | q
     ·exact szne q
     ·exact Nat.ne_of_gt hlS (List.mem_singleton.mp q)
    ·intro s' xs' hm S' U'
     obtain⟨h',g',d',tk',os'⟩:=s'
     obtain rfl:g'=s.gens:=hm.gens
     obtain rfl:d'=s.drawn:=hm.drawn
     obtain rfl:os'=s.os:=hm.os
     refine wpAny_pure (wpAny_pure ⟨rfl,h',tk',xs',rfl,S',U',λ b o hb e=>?_⟩)
     refine hm.heap b o (λ q=>?_) (Heap.get?_push_of_some _ (Heap.get?_push_of_some _ e))
     rcases List.mem_cons.mp q with q | q
     ·exact Nat.ne_of_lt hb q
     ·exact low b hb (List.mem_singleton.mp q)
   ·cases r₂ with
    | error e=>exact hr₂
    | ok fl₂=>
     cases fl₂ with
     | ret r=>
      obtain⟨rfl,h',tk,xs,rfl,g1,g2,g3⟩:=hr₂
      repeat (any_goals (first | assumption | wp_step))
      exact h h' tk xs g1 g2 g3
     | _=>exact hr₂.elim
  | _=>exact hr.elim
end
end ST
namespace L4
open PySem PyProof.Rows
theorem core_ints {prog:Program}{w:World}{A:Around}{E:Value->Shared->Prop}{s:Shared}{vs:List Value}{ns:List Int}(hI:IntsAre vs ns) (h2:2<=vs.length) (h64:vs.length<64):
  Core prog w A E vs (λ out=>∃ ns',IntsAre out.toList ns'/\ns'.Perm ns/\ns'.Pairwise (·<=·)) s:=by
 obtain⟨v1,v2,rest,rfl⟩:∃ v1 v2 rest,vs=v1::v2::rest:=by
  match vs,h2 with
  | v1::v2::rest,_=>exact⟨v1,v2,rest,rfl⟩
 unfold Core
 rw[keyKind_ints hI]
 refine wpAny_pure ⟨rfl,?_⟩
 refine wpAny_mono (wpS_sortRuns (a₀:=pairsOf (v1::v2::rest)) (st:=SortSt.mk' oneType' ((v1::v2::rest).toArray.zip (v1::v2::rest).toArray) #[] 7 none)
   (Q:=λ _ st'=>(arrOf st').Perm (pairsOf (v1::v2::rest))/\failedOf st'=none/\SortedTo (arrOf st') (pairsOf (v1::v2::rest)).size)
   hI.intKeys ⟨Array.Perm.refl _,rfl,rfl,rfl⟩ (by rw[pairsOf_size];simp) (by rw[pairsOf_size];exact h64) λ st' a1 a2 a3=>⟨a1,a2,a3⟩) ?_ λ _ _ e=>e
 rintro⟨⟨⟩,st'⟩ s' ⟨rfl,hp,hf,hs⟩
 exact⟨rfl,hf,sorted_out hI hp hs,by rw[hp.size_eq,pairsOf_size]⟩
end L4
namespace L5
open PySem PySem.Spec L2 L3
open PyProof.Rows hiding St
structure Bq (mg:Str->Option Value):Prop where
 set:mg "set"=none
 zip:mg "zip"=none
 enumerate:mg "enumerate"=none
section
variable {X:Cx}{K:PySem.W.Frag}{a b c e:Expr}{es:List Expr}{ta tb tc te:TDE}{tA:TDA}{pos p:Pos}{fa fb fc:Ev->Option T}
def dChain (f g:RD2) (ta tb tc:TDE):TDE:=fun δ S Q=>ta δ S λ x S1=>tb δ S1 λ y S2=>f x y S2 λ z S3=>match z with
 | .bl k=>if k=true then tc δ S3 λ w S4=>g y w S4 Q else Q (.bl false) S3
 | _=>False
theorem dChain.mo {f g:RD2}(hf:MoR f) (hg:MoR g) (ha:MoE ta) (hb:MoE tb) (hc:MoE tc):MoE (dChain f g ta tb tc):=fun δ S Q Q' hq h=>
 ha δ S _ _ (λ x S1 h=>hb δ S1 _ _ (λ y S2 h=>hf x y S2 _ _ (λ z S3 h=>by
  cases z <;> first
   | exact ite_imp (hc δ S3 _ _ λ w S4 h=>hg y w S4 _ _ hq h) (hq _ _) h
   | exact h) h) h) h
theorem upChain {f g:RD2}{r r':R2}(hr:Fits2 K f r) (hr':Fits2 K g r') (hf:MoR f) (hg:MoR g) (ha:MoE ta) (hb:MoE tb) (hc:MoE tc) {σ:St}{H:Hp}{Q:VK}(h:upE K (dChain f g ta tb tc) σ H Q):tChain r r' (upE K ta) (upE K tb) (upE K tc) σ H Q:=by
 obtain⟨δ,S,r1,r2,h⟩:=h
 refine upE.go ha r1 r2 h λ x S1 v H1 h1 q1 e1 p1=>?_
 refine upE.go hb (r1.ext e1) p1 h1 λ y S2 w H2 h2 q2 e2 p2=>?_
 refine hr v w x y H2 S2 _ (RepD.ext e2 x q1) q2 p2 (hf x y S2 _ _ (λ d S3 z v3 H3 q3 e3 p3=>?_) h2)
 cases d with
 | bl k=>
  simp only[RepD] at q3
  refine⟨k,q3,ite_imp (λ z=>?_) (λ z=>?_) z⟩
  ·refine upE.go hc (r1.ext ((e1.trans e2).trans e3)) p3 z λ w4 S4 v4 H4 h4 q4 e4 p4=>?_
   exact hr' w v4 y w4 H4 S4 Q (RepD.ext (e3.trans e4) y q2) q4 p4 (hg y w4 S4 _ _ (λ d S' z=>z.ext (((e1.trans e2).trans e3).trans e4)) h4)
  ·exact z _ H3 (by simp only[RepD]) ((e1.trans e2).trans e3) p3
 | non=>exact z.elim
 | int _=>exact z.elim
 | str _=>exact z.elim
 | err _ _ _=>exact z.elim
 | tup _=>exact z.elim
 | rol _=>exact z.elim
 | ref _=>exact z.elim
@[simp] noncomputable def chS (f g:T->T->Option T) (fa fb fc:Ev->Option T):Ev->Option T:=fun ρ=>(fa ρ).bind λ x=>(fb ρ).bind λ y=>(f x y).bind λ b=>match b with
 | .bl k=>if k=true then (fc ρ).bind λ z=>g y z else some (.bl false)
 | _=>none
theorem ok_ch {f g:T->T->Option T}{F G:RD2}(hf:Good2 RkF f F) (hg:Good2 RkF g G) (ha:OkR fa ta) (hb:OkR fb tb) (hc:OkR fc tc):OkF (chS f g fa fb fc) (dChain F G ta tb tc):=λ S Z δ ρ y Q hE e hq=>by
 obtain⟨x1,e1,e⟩:=Option.bind_eq_some_iff.mp e
 obtain⟨x2,e2,e⟩:=Option.bind_eq_some_iff.mp e
 obtain⟨b,e3,e⟩:=Option.bind_eq_some_iff.mp e
 refine ha S Z δ ρ x1 _ hE e1 λ d1 S1 s1 r1=>?_
 refine hb S1 Z δ ρ x2 _ (hE.grow s1) e2 λ d2 S2 s2 r2=>?_
 refine hf S2 Z x1 x2 b d1 d2 _ (hE.grow (s1.trans s2)).zd (Vw.grow r1 s2) r2 e3 λ c S3 s3 r3=>?_
 split at e
 ·have:=r3.1
  simp only[Sn] at this
  subst this
  split at e
  ·rename_i hk
   obtain⟨x4,e4,e5⟩:=Option.bind_eq_some_iff.mp e
   dsimp only;rw[if_pos hk]
   refine hc S3 Z δ ρ x4 _ (hE.grow ((s1.trans s2).trans s3)) e4 λ d4 S4 s4 r4=>?_
   exact hg S4 Z x2 x4 y d2 d4 Q (hE.grow (((s1.trans s2).trans s3).trans s4)).zd (Vw.grow r2 (s3.trans s4)) r4 e5 λ c' S5 s5 r5=>hq c' S5 ((((s1.trans s2).trans s3).trans s4).trans s5) (Cl.cl (((s1.trans s2).trans s3).trans s4) r5)
  ·rename_i hk
   dsimp only;rw[if_neg hk]
   cases e
   exact hq _ S3 ((s1.trans s2).trans s3) (Cl.of (λ _=>nofun) sn_bl)
 ·cases e
theorem pd_ch {op op':CmpOp}{f g:RD2}{r r':R2}(ho:OpR X (compareOp op) r) (ho':OpR X (compareOp op') r') (hr:Fits2 X.K f r) (hr':Fits2 X.K g r') (hf:MoR f) (hg:MoR g) (ha:PD X a ta) (hb:PD X b tb) (hc:PD X c tc)
  (hm:lastMarks [op,op'] [b,c]=false:=by with_unfolding_all rfl):PD X (.Compare a [op,op'] [b,c] pos) (dChain f g ta tb tc):=
 ⟨dChain.mo hf hg ha.mo hb.mo hc.mo,PE.imp (pe_chain ho ho' ha.pe hb.pe hc.pe hm) λ _ _ _ h=>upChain hr hr' hf hg ha.mo hb.mo hc.mo h⟩
end
end L5
namespace L2
open PySem PySem.Spec PyProof.Rows
section
variable {X:Cx}
theorem op_isB:OpR X (compareOp .Is) (λ x y H Q=>∃ c d,x=.bl c/\y=.bl d/\Q (.bl (c == d)) H):=by
 intro pins s σ H x y v u Q I rx ry h
 obtain⟨c,d,rfl,rfl,q⟩:=h
 cases rx
 cases ry
 exact is_bool ⟨.bl _,H,I,rfl,q⟩
theorem op_notB:OpR X (compareOp .IsNot) (λ x y H Q=>∃ c d,x=.bl c/\y=.bl d/\Q (.bl (c != d)) H):=by
 intro pins s σ H x y v u Q I rx ry h
 obtain⟨c,d,rfl,rfl,q⟩:=h
 cases rx
 cases ry
 exact isnot_bool ⟨.bl _,H,I,rfl,q⟩
end
end L2
namespace L5
open PySem PySem.Spec L2 L3
open PyProof.Rows hiding St
section
variable {X:Cx}{K:PySem.W.Frag}{a b c e o i v:Expr}{es:List Expr}{ta tb tc te td ty tv:TDE}{tA:TDA}{pos p pos':Pos}{fa fb fc:Ev->Option T}
def fLtV:RD2:=λ x y S Q=>match x,y with
 | .int i,.int j=>Q (.bl (decide (i<j))) S
 | .tup ds,.tup es=>∃ ns ms:List Int,ds=ns.map D.int/\es=ms.map D.int/\Q (.bl (HT.lexLt ns ms)) S
 | _,_=>False
noncomputable def ltS:T->T->Option T
 | .int i,.int j=>some (.bl (decide (i<j)))
 | .tup ts,.tup us=>(intsT ts).bind λ ns=>(intsT us).map λ ms=>.bl (HT.lexLt ns ms)
 | _,_=>none
theorem fLtV.mo:MoR fLtV:=λ x y S Q Q' hq h=>by
 unfold fLtV at h ⊢
 split at h
 ·exact hq _ _ h
 ·obtain⟨ns,ms,h1,h2,h3⟩:=h
  exact⟨ns,ms,h1,h2,hq _ _ h3⟩
 ·exact h.elim
theorem fLtV.fits:Fits2 K fLtV (λ x y H Q=>rI0 (λ i j=>.bl (decide (i<j))) x y H Q\/rLtT K x y H Q):=λ x y d e H S Q h1 h2 h3 h=>by
 unfold fLtV at h
 split at h
 ·simp only[RepD] at h1 h2
  exact .inl ⟨_,_,h1,h2,h _ H (by simp only[RepD]) (.refl H) h3⟩
 ·obtain⟨ns,ms,rfl,rfl,h⟩:=h
  simp only[RepD] at h1 h2
  obtain⟨a,xs,rfl,g1,g2⟩:=h1
  obtain⟨b,ys,rfl,g3,g4⟩:=h2
  rw[g2.ints] at g1
  rw[g4.ints] at g3
  exact .inr ⟨a,b,ns,ms,rfl,rfl,g1,g3,h _ H (by simp only[RepD]) (.refl H) h3⟩
 ·exact h.elim
theorem good_lt:Good2 RkF ltS fLtV:=λ S Z x y z d e Q hz hx hy ef hq=>by
 unfold ltS at ef
 split at ef
 ·cases ef
  cases hx.int;cases hy.int
  exact hq _ S (.refl S) (Cl.of (λ _=>nofun) sn_bl)
 ·obtain⟨ns,e1,e2⟩:=Option.bind_eq_some_iff.mp ef
  obtain⟨ms,e3,rfl⟩:=Option.map_eq_some_iff.mp e2
  cases intsT_some e1
  cases intsT_some e3
  obtain⟨ds,rfl,h2⟩:=hx.tup
  obtain⟨es,rfl,h4⟩:=hy.tup
  exact⟨ns,ms,sns_ints.mp h2,sns_ints.mp h4,hq _ S (.refl S) (Cl.of (λ _=>nofun) sn_bl)⟩
 ·cases ef
theorem op_ltV {k:Nat}(hr:Room k X.A):OpR X (compareOp .Lt) (λ x y H Q=>rI0 (λ i j=>.bl (decide (i<j))) x y H Q\/rLtT X.K x y H Q):=op_lt.or (op_ltT (by have:=hr.units;omega))
theorem pdt_ltV {k:Nat}(hr:Room k X.A) (ha:PD X a ta) (hb:PD X b tb):PDT X (.Compare a [.Lt] [b] pos) (dTest (dOp fLtV ta tb)):=pdt_cmp (op_ltV hr) fLtV.fits fLtV.mo ha hb (nomark _)
def fIsV (neg:Bool):RD2:=λ x y S Q=>match x,y with
 | .bl c,.bl d=>Q (.bl (cond neg (c != d) (c == d))) S
 | x,.non=>Q (.bl (cond neg (!isND x) (isND x))) S
 | _,_=>False
noncomputable def isS (neg:Bool):T->T->Option T
 | .bl c,.bl d=>some (.bl (cond neg (c != d) (c == d)))
 | x,.non=>some (.bl (cond neg (!isNone x) (isNone x)))
 | _,_=>none
theorem fIsV.mo {neg:Bool}:MoR (fIsV neg):=λ x y S Q Q' hq h=>by
 unfold fIsV at h ⊢
 split at h
 ·exact hq _ _ h
 ·exact hq _ _ h
 ·exact h.elim
theorem fIsV.fits:Fits2 K (fIsV false) (λ x y H Q=>(∃ c d,x=.bl c/\y=.bl d/\Q (.bl (c == d)) H)\/(y=.non/\Q (.bl (decide (x=.non))) H)):=λ x y d e H S Q h1 h2 h3 h=>by
 unfold fIsV at h
 split at h
 ·simp only[RepD] at h1 h2
  exact .inl ⟨_,_,h1,h2,h _ H (by simp only[RepD,cond]) (.refl H) h3⟩
 ·simp only[RepD] at h2
  refine .inr ⟨h2,?_⟩
  rw[isND_ok h1]
  exact h _ H (by simp only[RepD,cond]) (.refl H) h3
 ·exact h.elim
theorem fIsV.fits':Fits2 K (fIsV true) (λ x y H Q=>(∃ c d,x=.bl c/\y=.bl d/\Q (.bl (c != d)) H)\/(y=.non/\Q (.bl (!decide (x=.non))) H)):=λ x y d e H S Q h1 h2 h3 h=>by
 unfold fIsV at h
 split at h
 ·simp only[RepD] at h1 h2
  exact .inl ⟨_,_,h1,h2,h _ H (by simp only[RepD,cond]) (.refl H) h3⟩
 ·simp only[RepD] at h2
  refine .inr ⟨h2,?_⟩
  rw[isND_ok h1]
  exact h _ H (by simp only[RepD,cond]) (.refl H) h3
 ·exact h.elim
theorem isND_of {S:SS}{Z:Addr->Prop}{x:T}{d:D}(hx:Vw S Z x d):isND d=isNone x:=by
 cases x with
 | non=>cases hx.non;rfl
 | bl _=>cases hx.bl;rfl
 | int _=>cases hx.int;rfl
 | str _=>cases hx.str;rfl
 | tup _=>obtain⟨ds,rfl,_⟩:=hx.tup;rfl
 | lst _=>obtain⟨ds,rfl | ⟨a,rfl,h1⟩,h2⟩:=hx.lst <;> rfl
 | dic=>obtain⟨a,kvs,⟨rfl,_⟩,h1⟩:=hx.dic;rfl
 | err _ _ _=>obtain⟨x,rfl,_⟩:=hx.err;rfl
theorem good_is {neg:Bool}:Good2 RkF (isS neg) (fIsV neg):=λ S Z x y z d e Q hz hx hy ef hq=>by
 unfold isS at ef
 split at ef
 ·cases ef
  cases hx.bl;cases hy.bl
  exact hq _ S (.refl S) (Cl.of (λ _=>nofun) sn_bl)
 ·cases ef
  cases hy.non
  have key:Q (.bl (cond neg (!isND d) (isND d))) S:=by
   rw[isND_of hx]
   exact hq _ S (.refl S) (Cl.of (λ _=>nofun) sn_bl)
  unfold fIsV
  cases d <;> exact key
 ·cases ef
theorem pdt_isV (ha:PD X a ta) (hb:PD X b tb):PDT X (.Compare a [.Is] [b] pos) (dTest (dOp (fIsV false) ta tb)):=pdt_cmp (op_isB.or op_isN) fIsV.fits fIsV.mo ha hb (nomark _)
theorem pdt_isnotV (ha:PD X a ta) (hb:PD X b tb):PDT X (.Compare a [.IsNot] [b] pos) (dTest (dOp (fIsV true) ta tb)):=pdt_cmp (op_notB.or op_notN) fIsV.fits' fIsV.mo ha hb (nomark _)
def dLPut (td ty tv:TDE):TDS:=λ E δ S=>tv δ S λ v S1=>td δ S1 λ x S2=>ty δ S2 λ y S3=>∃ p ds k j,x=.ref p/\y=.int k/\S3 p=some (.lst ds)/\ixN ds.length k=some j/\E.nx δ (ups S3 p (.lst (ds.set j v)))
theorem RepDs.set {H:Hp}{d:D}{x:V}(h:RepD K H d x):∀ {ds:List D}{xs:List V}(j:Nat),RepDs K H ds xs->RepDs K H (ds.set j d) (xs.set j x)
 | [],xs,j,r=>by simp only[RepDs] at r;subst r;exact .nil
 | c::ds,xs,0,r=>by
  simp only[RepDs] at r
  obtain⟨y,ys,rfl,_,r2⟩:=r
  exact .cons h r2
 | c::ds,xs,j+1,r=>by
  simp only[RepDs] at r
  obtain⟨y,ys,rfl,r1,r2⟩:=r
  exact .cons r1 (RepDs.set h j r2)
theorem pds_lput (ho:PD X o td) (hi:PD X i ty) (hv:PD X v tv) (hs:swapsWithSole [.Subscript o i pos'] v pos.line X.env=pure false:=by rfl) (hw:swappedStores [.Subscript o i pos'] v X.env=pure none:=by rfl)
  (h1:(assignEach [.Subscript o i pos'] X.env).map (·.2)=[assign (.Subscript o i pos') X.env]:=by rfl)
  (ha:∀ v,assign (.Subscript o i pos') X.env v=(do
   let ov <- holding [v] (eval o X.env)
   let iv <- holding [v,ov] (eval i X.env)
   standAt pos'
   holding [v,ov,iv] (setItem ov iv v)
   release [v,ov,iv] []):=by intro _;rfl):PDS X (.Assign [.Subscript o i pos'] v pos) (dLPut td ty tv):=by
 refine⟨λ E E' δ S hE z=>hv.mo δ S _ _ (λ w S1 z=>ho.mo δ S1 _ _ (λ x S2 z=>hi.mo δ S2 _ _ (λ y S3 ⟨p,ds,k,j,a,b,c,d,h⟩=>⟨p,ds,k,j,a,b,c,d,hE.nx _ _ h⟩) z) z) z,PS.imp (ps_asg hv.pe (pg_sub ho.pe hi.pe set_list ha) hs hw h1) λ D σ H hu=>?_⟩
 obtain⟨δ,S,r1,r2,z⟩:=hu
 refine upE.go hv.mo r1 r2 z λ w S1 w1 H1 h1 q1 e1 p1=>?_
 refine upE.go ho.mo (r1.ext e1) p1 h1 λ x S2 w2 H2 h2 q2 e2 p2=>?_
 refine upE.go hi.mo ((r1.ext e1).ext e2) p2 h2 λ y S3 w3 H3 h3 q3 e3 p3=>?_
 obtain⟨p,ds,k,j,rfl,rfl,c1,c2,h⟩:=h3
 simp only[RepD] at q2 q3
 subst q2 q3
 obtain⟨xs,g1,g2⟩:=p3 _ _ c1
 have e4:Ext H3 (upd H3 p (.lst (xs.set j w1))):=.lst g1 _
 refine⟨p,xs,k,j,rfl,rfl,g1,by rw[<- g2.length];exact c2,?_⟩
 exact h σ _ ((((r1.ext e1).ext e2).ext e3).ext e4) (((e1.trans e2).trans e3).trans e4) (p3.ups e4 ⟨_,upd_same,RepDs.ext e4 _ (RepDs.set (RepD.ext (e2.trans e3) w q1) j g2)⟩)
@[simp] noncomputable def lputS (n:Nat) (f v:Ev->Option T):Sm:=fun ρ=>(v ρ).bind λ z=>(f ρ).bind λ y=>match ρ[n]?,y with
 | some (some (.own (.lst ts))),.int k=>(ixN ts.length k).map λ j=>.nx (ρ.set n (some (.own (.lst (ts.set j z)))))
 | _,_=>none
theorem oks_lput {R:Rk}(n:Nat) {f v:Ev->Option T}(hf:OkR f ty) (hv:OkE v tv):OkS R (lputS n f v) (dLPut (dVar n) ty tv):=λ S0 Z0 S Z δ ρ o E F e P=>by
 obtain⟨z,e1,e⟩:=Option.bind_eq_some_iff.mp e
 obtain⟨x,e2,e3⟩:=Option.bind_eq_some_iff.mp e
 split at e3
 ·rename_i ts k h
  obtain⟨j,hj,rfl⟩:=Option.map_eq_some_iff.mp e3
  refine hv S Z δ ρ z _ F.er e1 λ dz S1 s1 r1=>?_
  have F1:=F.grow s1
  obtain⟨p,ob,h1,h2,h3,h4⟩:=F1.er.ow n _ h
  cases ob with
  | dct _=>exact h3.elim
  | lst ds=>
   show dVar n δ S1 _
   unfold dVar;rw[h1]
   refine hf S1 Z δ ρ _ _ F1.er e2 λ d S2 s2 r2=>?_
   cases Vw.int r2
   have h5:Sns (hid S2 Z) ts ds:=Sns.sx (hid_mono s2) ts h3
   exact⟨p,ds,k,j,rfl,rfl,s2 _ _ h2,by rw[h5.len];exact hj,P _ Z δ ((F1.grow s2).mut (us:=.lst (ts.set j z)) (es:=.lst (ds.set j dz)) n h h1 (h5.set' j (Sn.sx (hid_mono s2) z r1)))⟩
 ·cases e3
theorem ok_dic:OkE (cS .dic) dDict0:=λ S Z δ ρ y Q hE e hq=>by
 cases e
 intro p hp
 refine hq _ _ (.new hp _) ?_
 show Sn (hid _ Z) .dic _
 simp only[Sn]
 exact⟨p,[],⟨rfl,rfl⟩,by rw[hid_of (λ z=>hE.zd p z hp),ups_same]⟩
end
end L5
namespace ZP
open PySem PyProof.Rows
noncomputable def itName (k:Bool):String:=cond k "tuple_iterator" "list_iterator"
def SI (h:Heap) (k:Bool) (it l:Addr) (i:Nat):Prop:=∃ o,h.get? it=some o/\o.cls=.type (itName k)/\o.data=.fields #[.ref l,.int i 0]
def SQ (h:Heap) (k:Bool) (l:Addr) (xs:Array Value):Prop:=match k with
 | true=>h.IsTuple l xs
 | false=>h.IsList l xs
theorem SI.on {h h':Heap}{k:Bool}{it l:Addr}{i:Nat}(x:SI h k it l i) (f:∀ o,h.get? it=some o->h'.get? it=some o):SI h' k it l i:=
 let ⟨o,ho,r⟩:=x;⟨o,f o ho,r⟩
theorem SQ.on {h h':Heap}{k:Bool}{l:Addr}{xs:Array Value}(x:SQ h k l xs) (f:∀ o,h.get? l=some o->h'.get? l=some o):SQ h' k l xs:=by
 cases k with
 | true=>obtain⟨o,ho,r⟩:=(show h.IsTuple l xs from x);exact⟨o,f o ho,r⟩
 | false=>obtain⟨o,ho,r⟩:=(show h.IsList l xs from x);exact⟨o,f o ho,r⟩
theorem SQ.lt {h:Heap}{k:Bool}{l:Addr}{xs:Array Value}(x:SQ h k l xs):l<h.objs.size:=by
 cases k with
 | true=>obtain⟨o,ho,_⟩:=(show h.IsTuple l xs from x);exact Heap.lt_size ho
 | false=>obtain⟨o,ho,_⟩:=(show h.IsList l xs from x);exact Heap.lt_size ho
section
variable {prog:Program}{w:World}{A:Around}{E:Value->Shared->Prop}{s:Shared}
theorem made {k:Bool}{l:Addr}{xs:Array Value}{Q:Value->Shared->Prop}(hl:SQ s.heap k l xs)
  (hQ:Q (.ref s.heap.objs.size) { s with heap:=s.heap.push { cls:=.type (itName k),data:=.fields #[.ref l,.int 0 0] } }):wpAny (model prog w) A (pyIter (.ref l)) Q E s:=by
 cases k with
 | true=>exact wpAny_pyIter_tuple hl hQ
 | false=>exact wpAny_pyIter_list hl hQ
theorem drawT {it l:Addr}{i:Nat}{xs:Array Value}{x:Value}{Q:Value->Shared->Prop}(hit:s.heap.IsTupleIter it l i) (hl:s.heap.IsTuple l xs) (hx:xs[i]?=some x)
  (hQ:∀ h',h'.IsTupleIter it l (i+1)->Heap.SameBut it s.heap h'->Q x { s with heap:=h' }):wpAny (model prog w) A (Builtin.SmallTypes.nextOf (.ref it)) Q E s:=by
 have ht:=hit.typeIs
 obtain⟨oi,e1,e2,e3⟩:=id hit
 obtain⟨ol,g1,_,n,g2⟩:=hl
 refine wpAny_bind (wpAny_callSpecial?_slot (name:=Str.ofString "__next__") ht F.slot_tuple_iterator_next (wpAny_call_entry F.slot_tuple_iterator_next ht F.entry_tuple_iterator_next ?_ (F.args_tuple_iterator_next_1 _)))
 refine wpAny_bind (m:=field (.ref it) 0) (wpAny_field e1 e3 (x:=.ref l) rfl ?_)
 dsimp only
 rw[if_neg (show ¬ ((Value.ref l == Value.none)=true) from Bool.false_ne_true)]
 refine wpAny_bind (m:=field (.ref it) 1) (wpAny_field e1 e3 (x:=.int i 0) rfl ?_)
 dsimp only
 refine wpAny_bind (m:=seqItems? (.ref l)) (wpAny_seqItems g1 g2 ?_)
 simp only[Int.toNat_natCast,hx]
 have there:=Heap.get?_update_self (Obj.mapFields λ y=>y.setIfInBounds 1 (rawInt ((i:Int)+1))) e1 (Obj.isFreed_of_fields (Obj.data_mapFields e3 _))
 refine wpAny_bind (wpAny_setField e1 e3 (by simp) (wpAny_pure ⟨x,rfl,wpAny_pure (hQ _ ⟨_,there,(Obj.cls_mapFields ..).trans e2,?_⟩ (Heap.SameBut.update ..))⟩))
 rw[Obj.data_mapFields e3];simp[rawInt]
theorem endT {it l:Addr}{i:Nat}{xs:Array Value}{Q:Value->Shared->Prop}(hh:A.handled=none) (hit:s.heap.IsTupleIter it l i) (hl:s.heap.IsTuple l xs) (hx:xs[i]?=none)
  (hE:∀ h' e,Heap.ExtBut it s.heap h'->(∃ o,h'.get? e=some o/\o.cls=.type "StopIteration")->E (.ref e) { s with heap:=h' }):wpAny (model prog w) A (Builtin.SmallTypes.nextOf (.ref it)) Q E s:=by
 have ht:=hit.typeIs
 obtain⟨oi,e1,e2,e3⟩:=id hit
 obtain⟨ol,g1,_,n,g2⟩:=hl
 refine wpAny_bind (wpAny_callSpecial?_slot (name:=Str.ofString "__next__") ht F.slot_tuple_iterator_next (wpAny_call_entry F.slot_tuple_iterator_next ht F.entry_tuple_iterator_next ?_ (F.args_tuple_iterator_next_1 _)))
 refine wpAny_bind (m:=field (.ref it) 0) (wpAny_field e1 e3 (x:=.ref l) rfl ?_)
 dsimp only
 rw[if_neg (show ¬ ((Value.ref l == Value.none)=true) from Bool.false_ne_true)]
 refine wpAny_bind (m:=field (.ref it) 1) (wpAny_field e1 e3 (x:=.int i 0) rfl ?_)
 dsimp only
 refine wpAny_bind (m:=seqItems? (.ref l)) (wpAny_seqItems g1 g2 ?_)
 simp only[Int.toNat_natCast,hx]
 refine wpAny_bind (wpAny_rule (wpAny_bind (wpAny_setField e1 e3 (by simp) ?_)))
 refine wpAny_bind (m:=newExc (.type "StopIteration") []) ?_
 simp only[newExc,newTuple]
 refine wpAny_bind (wpAny_newObj_type (wpAny_bind (m:=firstArgMember _ _) (wpAny_of_eq (a:=Value.none) (by first | rfl | (simp only[firstArgMember];rfl)) (wpAny_newObj_type ?_ (by size_fits)))) (by size_fits))
 simp only[raiseNew]
 refine wpAny_bind (wpAny_handled ?_)
 rw[show A.in1.handled=none from hh]
 exact wpAny_bind (wpAny_pure (wpAny_throw (hE _ _ (((Heap.SameBut.update ..).extBut.push _).push _) ⟨_,Heap.get?_push_size _ rfl,rfl⟩)))
theorem draw {k:Bool}{it l:Addr}{i:Nat}{xs:Array Value}{x:Value}{Q:Value->Shared->Prop}(hit:SI s.heap k it l i) (hl:SQ s.heap k l xs) (hx:xs[i]?=some x)
  (hQ:∀ h',SI h' k it l (i+1)->Heap.SameBut it s.heap h'->Q x { s with heap:=h' }):wpAny (model prog w) A (Builtin.SmallTypes.nextOf (.ref it)) Q E s:=by
 cases k with
 | true=>exact drawT hit hl hx hQ
 | false=>exact wpAny_nextOf_list_item hit hl hx hQ
theorem drawEnd {k:Bool}{it l:Addr}{i:Nat}{xs:Array Value}{Q:Value->Shared->Prop}(hh:A.handled=none) (hit:SI s.heap k it l i) (hl:SQ s.heap k l xs) (hx:xs[i]?=none)
  (hE:∀ h' e,Heap.ExtBut it s.heap h'->(∃ o,h'.get? e=some o/\o.cls=.type "StopIteration")->E (.ref e) { s with heap:=h' }):wpAny (model prog w) A (Builtin.SmallTypes.nextOf (.ref it)) Q E s:=by
 cases k with
 | true=>exact endT hh hit hl hx hE
 | false=>exact wpAny_nextOf_list_end hh hit hl hx hE
structure Far (z TI TO i1 i2 l1 l2:Addr):Prop where
 nd:[z,TI,TO,i1,i2].Nodup
 f1:l1∉[z,TI,TO,i1,i2]
 f2:l2∉[z,TI,TO,i1,i2]
structure At (h:Heap) (k1 k2:Bool) (z TI TO i1 i2 l1 l2:Addr) (f0:Value) (n:Nat):Prop where
 z:IsZip h z TI TO f0
 ti:IsPair h TI (.ref i1) (.ref i2)
 to:∃ a b,IsPair h TO a b
 s1:SI h k1 i1 l1 n
 s2:SI h k2 i2 l2 n
theorem At.keep {h h':Heap}{k1 k2:Bool}{z TI TO i1 i2 l1 l2:Addr}{f0:Value}{n:Nat}(S:At h k1 k2 z TI TO i1 i2 l1 l2 f0 n) (f:∀ b∈[z,TI,TO,i1,i2],∀ o,h.get? b=some o->h'.get? b=some o):At h' k1 k2 z TI TO i1 i2 l1 l2 f0 n:=
 ⟨f z (by simp) _ S.z,f TI (by simp) _ S.ti,let ⟨a,b,e⟩:=S.to;⟨a,b,f TO (by simp) _ e⟩,S.s1.on (f i1 (by simp)),S.s2.on (f i2 (by simp))⟩
theorem item {k1 k2:Bool}{z TI TO i1 i2 l1 l2:Addr}{n:Nat}{xs ys:Array Value}{x y:Value}{Q:Option Value->Shared->Prop}(D:Far z TI TO i1 i2 l1 l2) (S:At s.heap k1 k2 z TI TO i1 i2 l1 l2 .none n)
  (h1:SQ s.heap k1 l1 xs) (h2:SQ s.heap k2 l2 ys) (hx:xs[n]?=some x) (hy:ys[n]?=some y)
  (hQ:∀ h',At h' k1 k2 z TI TO i1 i2 l1 l2 (rawInt s.heap.objs.size) (n+1)->IsPair h' s.heap.objs.size x y->(∀ c o,c∉[z,TI,TO,i1,i2]->s.heap.get? c=some o->h'.get? c=some o)->Q (some (.ref s.heap.objs.size)) { s with heap:=h' }):
  wpAny (model prog w) A (pyNext (.ref z)) Q E s:=by
 obtain⟨nd,f1,f2⟩:=D
 simp only[List.nodup_cons,List.mem_cons,List.not_mem_nil,or_false,not_or,List.nodup_nil,and_true,not_false_eq_true] at nd f1 f2
 obtain⟨⟨n1,n2,n3,n4⟩,⟨n5,n6,n7⟩,⟨n8,n9⟩,n10⟩:=nd
 obtain⟨a1,a2,a3,a4,a5⟩:=f1
 obtain⟨b1,b2,b3,b4,b5⟩:=f2
 obtain⟨hz,hti,⟨a,b,hto⟩,s1,s2⟩:=S
 have hT:s.TypeIs (.ref z) "zip":=⟨_,hz,rfl⟩
 unfold pyNext
 refine wpAny_bind (wpAny_attempt (wpAny_callSpecial?_slot (name:=Str.ofString "__next__") hT F.slot_zip_next (wpAny_call_entry F.slot_zip_next hT F.entry_zip_next ?_ (F.args_zip_next_1 _))))
 refine wpAny_bind (m:=field (.ref z) 2) (wpAny_field hz rfl (x:=.bool false) rfl ?_)
 refine wpAny_bind (m:=field (.ref z) 3) (wpAny_field hz rfl (x:=.ref TI) rfl ?_)
 refine wpAny_bind (m:=seqItems? (.ref TI)) (wpAny_seqItems hti rfl ?_)
 refine wpAny_bind (m:=Builtin.SmallTypes.ownedTupleIsFree (.ref z)) (wpAny_bind (m:=field (.ref z) 0) (wpAny_field hz rfl (x:=.none) rfl (wpAny_pure ?_)))
 simp only[if_true]
 refine wpAny_bind (wpAny_rule (wpAny_bind (wpAny_field hz rfl (x:=.ref TO) rfl (wpAny_bind (wpAny_setField_rec hz (by simp) λ g1 hz1 e1=>?_)))))
 replace hz1:IsZip g1 z TI TO .ellipsis:=hz1
 refine wpAny_bind ?_
 simp only[List.zipIdx_cons,List.zipIdx_nil,List.forIn_cons,List.forIn_nil]
 -- the first
 refine wpAny_bind (wpAny_bind (wpAny_onRaise (wpAny_bind (m:=Builtin.SmallTypes.nextOf (.ref i1)) (draw (s1.on λ o q=>e1.extBut _ _ (Ne.symm n3) q) (h1.on λ o q=>e1.extBut _ _ a1 q) hx λ g2 s12 e2=>wpAny_pure ?_))))
 have to2:IsPair g2 TO a b:=e2.extBut _ _ n8 (e1.extBut _ _ (Ne.symm n2) hto)
 refine wpAny_bind (wpAny_seqItems to2 rfl (wpAny_bind (wpAny_updateSeq_pair to2 λ g3 to3 e3=>wpAny_bind (wpAny_letGo (wpAny_pure ?_)))))
 replace to3:IsPair g3 TO x b:=to3
 -- the second
 have up:∀ c o,c≠z->c≠i1->c≠TO->s.heap.get? c=some o->g3.get? c=some o:=λ c o c1 c2 c3 q=>e3.extBut _ _ c3 (e2.extBut _ _ c2 (e1.extBut _ _ c1 q))
 refine wpAny_bind (wpAny_bind (wpAny_onRaise (wpAny_bind (m:=Builtin.SmallTypes.nextOf (.ref i2)) (draw (s2.on λ o q=>up _ o (Ne.symm n4) (Ne.symm n10) (Ne.symm n9) q) (h2.on λ o q=>up _ o b1 b4 b3 q) hy λ g4 s24 e4=>wpAny_pure ?_))))
 have to4:IsPair g4 TO x b:=e4.extBut _ _ n9 to3
 refine wpAny_bind (wpAny_seqItems to4 rfl (wpAny_bind (wpAny_updateSeq_pair to4 λ g5 to5 e5=>wpAny_bind (wpAny_letGo (wpAny_pure (wpAny_pure ?_))))))
 replace to5:IsPair g5 TO x y:=to5
 refine wpAny_bind (wpAny_seqItems to5 rfl (wpAny_bind (wpAny_newTuple ?_)))
 have sz:g5.objs.size=s.heap.objs.size:=by rw[e5.1,e4.1,e3.1,e2.1,e1.1]
 have hz5:IsZip g5 z TI TO .ellipsis:=e5.extBut _ _ n2 (e4.extBut _ _ n4 (e3.extBut _ _ n2 (e2.extBut _ _ n3 hz1)))
 have up5:∀ c o,c∉[z,TI,TO,i1,i2]->s.heap.get? c=some o->g5.get? c=some o:=λ c o hc q=>by
  simp only[List.mem_cons,List.not_mem_nil,or_false,not_or] at hc
  exact e5.extBut _ _ hc.2.2.1 (e4.extBut _ _ hc.2.2.2.2 (up c o hc.1 hc.2.2.2.1 hc.2.2.1 q))
 have ti5:IsPair g5 TI (.ref i1) (.ref i2):=e5.extBut _ _ n5 (e4.extBut _ _ n7 (up _ _ (Ne.symm n1) n6 n5 hti))
 have s15:SI g5 k1 i1 l1 (n+1):=s12.on λ o q=>e5.extBut _ _ (Ne.symm n8) (e4.extBut _ _ n10 (e3.extBut _ _ (Ne.symm n8) q))
 have s25:SI g5 k2 i2 l2 (n+1):=s24.on λ o q=>e5.extBut _ _ (Ne.symm n9) q
 have lz:z<g5.objs.size:=Heap.lt_size hz5
 refine wpAny_bind (m:=Builtin.SmallTypes.ownedTupleHandOut (.ref z) (.ref g5.objs.size)) ?_
 have hz6:IsZip (g5.push { cls:=.type "tuple",data:=.seq #[x,y] }) z TI TO .ellipsis:=Heap.get?_push_of_some _ hz5
 refine wpAny_bind (wpAny_setField_rec hz6 (by simp) λ g7 hz7 e7=>?_)
 replace hz7:IsZip g7 z TI TO (rawInt g5.objs.size):=hz7
 refine wpAny_setField_rec hz7 (by simp) λ g8 hz8 e8=>?_
 replace hz8:IsZip g8 z TI TO (rawInt g5.objs.size):=hz8
 have up8:∀ c o,c≠z->(g5.push { cls:=.type "tuple",data:=.seq #[x,y] }).get? c=some o->g8.get? c=some o:=λ c o c1 q=>e8.extBut _ _ c1 (e7.extBut _ _ c1 q)
 have T8:IsPair g8 g5.objs.size x y:=up8 _ _ (Nat.ne_of_gt lz) (Heap.get?_push_size _ rfl)
 have up9:∀ c o,c≠z->g5.get? c=some o->g8.get? c=some o:=λ c o c1 q=>up8 c o c1 (Heap.get?_push_of_some _ q)
 rw[sz] at hz8 T8
 refine wpAny_pure ⟨.ref g5.objs.size,rfl,wpAny_pure ?_⟩
 show Q (some (.ref g5.objs.size)) _
 rw[sz]
 refine hQ g8 ⟨hz8,up9 _ _ (Ne.symm n1) ti5,⟨x,y,up9 _ _ (Ne.symm n2) to5⟩,s15.on λ o q=>up9 _ o (Ne.symm n3) q,s25.on λ o q=>up9 _ o (Ne.symm n4) q⟩ T8 λ c o hc q=>up9 c o (λ e=>hc (by simp[e])) (up5 c o hc q)
theorem stop {k1 k2:Bool}{z TI TO i1 i2 l1 l2:Addr}{n:Nat}{xs ys:Array Value}{Q:Option Value->Shared->Prop}(hh:A.handled=none) (D:Far z TI TO i1 i2 l1 l2) (S:At s.heap k1 k2 z TI TO i1 i2 l1 l2 .none n)
  (h1:SQ s.heap k1 l1 xs) (h2:SQ s.heap k2 l2 ys) (hend:xs[n]?=none\/ys[n]?=none)
  (hQ:∀ h',(∀ c o,c∉[z,TI,TO,i1,i2]->s.heap.get? c=some o->h'.get? c=some o)->Q none { s with heap:=h' }):
  wpAny (model prog w) A (pyNext (.ref z)) Q E s:=by
 obtain⟨nd,f1,f2⟩:=D
 simp only[List.nodup_cons,List.mem_cons,List.not_mem_nil,or_false,not_or,List.nodup_nil,and_true,not_false_eq_true] at nd f1 f2
 obtain⟨⟨n1,n2,n3,n4⟩,⟨n5,n6,n7⟩,⟨n8,n9⟩,n10⟩:=nd
 obtain⟨a1,a2,a3,a4,a5⟩:=f1
 obtain⟨b1,b2,b3,b4,b5⟩:=f2
 obtain⟨hz,hti,⟨a,b,hto⟩,s1,s2⟩:=S
 have hT:s.TypeIs (.ref z) "zip":=⟨_,hz,rfl⟩
 have fin:∀ (h':Heap) (e:Addr),(∀ c o,c∉[z,TI,TO,i1,i2]->s.heap.get? c=some o->h'.get? c=some o)->(∃ o,h'.get? e=some o/\o.cls=.type "StopIteration")->
   wpAny (model prog w) A (do if <- isInstance (.ref e) (.type "StopIteration") then pure none else throw (.ref e)) Q E { s with heap:=h' }:=λ h' e k1 k2=>by
  obtain⟨o,ho,hc⟩:=k2
  exact wpAny_bind (wpAny_isInstance (T:="StopIteration") (b:=true) ⟨o,ho,hc⟩ isSubtype_stop (wpAny_pure (hQ _ k1)))
 unfold pyNext
 refine wpAny_bind (wpAny_attempt (wpAny_callSpecial?_slot (name:=Str.ofString "__next__") hT F.slot_zip_next (wpAny_call_entry F.slot_zip_next hT F.entry_zip_next ?_ (F.args_zip_next_1 _))))
 refine wpAny_bind (m:=field (.ref z) 2) (wpAny_field hz rfl (x:=.bool false) rfl ?_)
 refine wpAny_bind (m:=field (.ref z) 3) (wpAny_field hz rfl (x:=.ref TI) rfl ?_)
 refine wpAny_bind (m:=seqItems? (.ref TI)) (wpAny_seqItems hti rfl ?_)
 refine wpAny_bind (m:=Builtin.SmallTypes.ownedTupleIsFree (.ref z)) (wpAny_bind (m:=field (.ref z) 0) (wpAny_field hz rfl (x:=.none) rfl (wpAny_pure ?_)))
 simp only[if_true]
 refine wpAny_bind (wpAny_rule (wpAny_bind (wpAny_field hz rfl (x:=.ref TO) rfl (wpAny_bind (wpAny_setField_rec hz (by simp) λ g1 hz1 e1=>?_)))))
 replace hz1:IsZip g1 z TI TO .ellipsis:=hz1
 refine wpAny_bind ?_
 simp only[List.zipIdx_cons,List.zipIdx_nil,List.forIn_cons,List.forIn_nil]
 cases hx:xs[n]? with
 | none=>
  refine wpAny_bind (wpAny_bind (wpAny_onRaise (wpAny_bind (m:=Builtin.SmallTypes.nextOf (.ref i1)) (drawEnd hh (s1.on λ o q=>e1.extBut _ _ (Ne.symm n3) q) (h1.on λ o q=>e1.extBut _ _ a1 q) hx λ g2 ex e2 he=>?_))))
  have hz2:IsZip g2 z TI TO .ellipsis:=e2 _ _ n3 hz1
  obtain⟨oe,q1,q2⟩:=he
  have ne:ex≠z:=λ q=>by subst q;rw[hz2] at q1;cases q1;simp at q2
  refine wpAny_setField_rec hz2 (by simp) λ g3 _ e3=>fin g3 ex (λ c o hc q=>?_) ⟨oe,e3.extBut _ _ ne q1,q2⟩
  simp only[List.mem_cons,List.not_mem_nil,or_false,not_or] at hc
  exact e3.extBut _ _ hc.1 (e2 _ _ hc.2.2.2.1 (e1.extBut _ _ hc.1 q))
 | some x=>
  have hy:ys[n]?=none:=hend.resolve_left (by rw[hx];simp)
  refine wpAny_bind (wpAny_bind (wpAny_onRaise (wpAny_bind (m:=Builtin.SmallTypes.nextOf (.ref i1)) (draw (s1.on λ o q=>e1.extBut _ _ (Ne.symm n3) q) (h1.on λ o q=>e1.extBut _ _ a1 q) hx λ g2 s12 e2=>wpAny_pure ?_))))
  have to2:IsPair g2 TO a b:=e2.extBut _ _ n8 (e1.extBut _ _ (Ne.symm n2) hto)
  refine wpAny_bind (wpAny_seqItems to2 rfl (wpAny_bind (wpAny_updateSeq_pair to2 λ g3 to3 e3=>wpAny_bind (wpAny_letGo (wpAny_pure ?_)))))
  have up:∀ c o,c≠z->c≠i1->c≠TO->s.heap.get? c=some o->g3.get? c=some o:=λ c o c1 c2 c3 q=>e3.extBut _ _ c3 (e2.extBut _ _ c2 (e1.extBut _ _ c1 q))
  refine wpAny_bind (wpAny_bind (wpAny_onRaise (wpAny_bind (m:=Builtin.SmallTypes.nextOf (.ref i2)) (drawEnd hh (s2.on λ o q=>up _ o (Ne.symm n4) (Ne.symm n10) (Ne.symm n9) q) (h2.on λ o q=>up _ o b1 b4 b3 q) hy λ g4 ex e4 he=>?_))))
  have hz4:IsZip g4 z TI TO .ellipsis:=e4 _ _ n4 (e3.extBut _ _ n2 (e2.extBut _ _ n3 hz1))
  obtain⟨oe,q1,q2⟩:=he
  have ne:ex≠z:=λ q=>by subst q;rw[hz4] at q1;cases q1;simp at q2
  refine wpAny_setField_rec hz4 (by simp) λ g5 _ e5=>fin g5 ex (λ c o hc q=>?_) ⟨oe,e5.extBut _ _ ne q1,q2⟩
  simp only[List.mem_cons,List.not_mem_nil,or_false,not_or] at hc
  exact e5.extBut _ _ hc.1 (e4 _ _ hc.2.2.2.2 (up c o hc.1 hc.2.2.2.1 hc.2.2.1 q))
end
end ZP
namespace ZP
open PySem PyProof.Rows
abbrev itO (k:Bool) (l:Addr):Obj:={ cls:=.type (itName k),data:=.fields #[.ref l,.int 0 0] }
abbrev hp2 (k1 k2:Bool) (h:Heap) (l1 l2:Addr):Heap:=(h.push (itO k1 l1)).push (itO k2 l2)
abbrev hp3 (k1 k2:Bool) (h:Heap) (l1 l2:Addr):Heap:=(hp2 k1 k2 h l1 l2).push { cls:=.type "tuple",data:=.seq #[.ref h.objs.size,.ref (h.push (itO k1 l1)).objs.size] }
abbrev hp4 (k1 k2:Bool) (h:Heap) (l1 l2:Addr):Heap:=(hp3 k1 k2 h l1 l2).push { cls:=.type "tuple",data:=.seq #[.none,.none] }
abbrev hp5 (k1 k2:Bool) (h:Heap) (l1 l2:Addr):Heap:=(hp4 k1 k2 h l1 l2).push { cls:=.type "zip",data:=.fields #[.none,.bool false,.bool false,.ref (hp2 k1 k2 h l1 l2).objs.size,.ref (hp3 k1 k2 h l1 l2).objs.size] }
theorem meets_new (k1 k2:Bool) (l1 l2:Addr) (xs ys:Array Value):Meets (Builtin.«zip.__new__» ⟨[.type "zip",.ref l1,.ref l2],[]⟩) (λ _ R s=>SQ s.heap k1 l1 xs/\SQ s.heap k2 l2 ys/\
   R (.ok (.ret (.ref (hp4 k1 k2 s.heap l1 l2).objs.size))) { s with heap:=hp5 k1 k2 s.heap l1 l2 }):=
 .of_wp λ prog w A R s h=>by
  obtain⟨hp,g,d,tk,os⟩:=s
  obtain⟨q1,q2,h⟩:=h
  have hsub:=sub_zip
  have m1:SQ (Shared.heap ⟨hp,g,d,tk,os⟩) k1 l1 xs:=q1
  have m2:SQ (Shared.heap ⟨hp.push (itO k1 l1),g,d,tk,os⟩) k2 l2 ys:=q2.on λ o e=>Heap.get?_push_of_some _ e
  wp_walk using made m1,made m2
  exact⟨_,rfl,h⟩
section
variable {prog:Program}{w:World}{A:Around}{E:Value->Shared->Prop}{s:Shared}
theorem new {k1 k2:Bool}{l1 l2:Addr}{xs ys:Array Value}{Q:Value->Shared->Prop}(h1:SQ s.heap k1 l1 xs) (h2:SQ s.heap k2 l2 ys)
  (h:∀ h' z TI TO i1 i2,(∀ b∈[z,TI,TO,i1,i2],s.heap.objs.size<=b)->Far z TI TO i1 i2 l1 l2->At h' k1 k2 z TI TO i1 i2 l1 l2 .none 0->(∀ c o,s.heap.get? c=some o->h'.get? c=some o)->Q (.ref z) { s with heap:=h' }):
  wpAny (model prog w) A (call (.type "zip") [.ref l1,.ref l2]) Q E s:=by
 refine callType_new F.called_zip (by decide) (F.typeCall_zip_2 _ _) (F.newCall_zip_2 _ _) (λ obj=>F.args_object_init_3 obj _ _) F.entry_zip_new (meets_new k1 k2 l1 l2 xs ys) ⟨h1,h2,?_⟩
 have z1:(s.heap.push (itO k1 l1)).objs.size=s.heap.objs.size+1:=Heap.size_push ..
 have z2:(hp2 k1 k2 s.heap l1 l2).objs.size=s.heap.objs.size+2:=by rw[Heap.size_push,z1]
 have z3:(hp3 k1 k2 s.heap l1 l2).objs.size=s.heap.objs.size+3:=by rw[Heap.size_push,z2]
 have z4:(hp4 k1 k2 s.heap l1 l2).objs.size=s.heap.objs.size+4:=by rw[Heap.size_push,z3]
 have p1:∀ (h:Heap) (o:Obj),o.isFreed=false->(h.push o).get? h.objs.size=some o:=λ h o e=>Heap.get?_push_size _ e
 have u:∀ {h:Heap}{b:Addr}{o:Obj}(o':Obj),h.get? b=some o->(h.push o').get? b=some o:=λ o' e=>Heap.get?_push_of_some _ e
 have g5:(hp5 k1 k2 s.heap l1 l2).get? (hp4 k1 k2 s.heap l1 l2).objs.size=some _:=p1 _ _ rfl
 have g4:(hp5 k1 k2 s.heap l1 l2).get? (hp3 k1 k2 s.heap l1 l2).objs.size=some _:=u _ (p1 _ _ rfl)
 have g3:(hp5 k1 k2 s.heap l1 l2).get? (hp2 k1 k2 s.heap l1 l2).objs.size=some _:=u _ (u _ (p1 _ _ rfl))
 have g2:(hp5 k1 k2 s.heap l1 l2).get? (s.heap.push (itO k1 l1)).objs.size=some (itO k2 l2):=u _ (u _ (u _ (p1 _ _ rfl)))
 have g1:(hp5 k1 k2 s.heap l1 l2).get? s.heap.objs.size=some (itO k1 l1):=u _ (u _ (u _ (u _ (p1 _ _ rfl))))
 have a1:=h1.lt
 have a2:=h2.lt
 rw[z2,z3,z4] at g5
 rw[z1,z2] at g3
 rw[z3] at g4
 rw[z1] at g2
 generalize hN:s.heap.objs.size=N at *
 have lt:∀ {m:Nat},m<N->∀ j:Nat,¬ m=N+j:=λ hm j=>by omega
 have ne:∀ {i j:Nat},i≠j->¬ (N+i=N+j):=λ hij e=>hij (by omega)
 show _/\_
 rw[z4]
 refine⟨⟨_,g5,rfl⟩,h _ (N+4) (N+2) (N+3) N (N+1) (λ b hb=>?_) ⟨?_,?_,?_⟩ ⟨g5,g3,⟨_,_,g4⟩,⟨_,g1,rfl,rfl⟩,⟨_,g2,rfl,rfl⟩⟩ λ c o e=>u _ (u _ (u _ (u _ (u _ e))))⟩
 ·simp only[List.mem_cons,List.not_mem_nil,or_false] at hb
  have h0:N<=N:=Nat.le_refl N
  rcases hb with e | e | e | e | e <;> subst e
  ·exact Nat.le_add_right N 4
  ·exact Nat.le_add_right N 2
  ·exact Nat.le_add_right N 3
  ·exact h0
  ·exact Nat.le_add_right N 1
 ·have e0:∀ {i:Nat},i≠0->¬ (N+i=N):=λ hi e=>hi (by omega)
  have e0':∀ {i:Nat},i≠0->¬ (N=N+i):=λ hi e=>hi (by omega)
  simp only[List.nodup_cons,List.mem_cons,List.not_mem_nil,or_false,not_or,List.nodup_nil,and_true,not_false_eq_true]
  exact⟨⟨ne (by decide),ne (by decide),e0 (by decide),ne (by decide)⟩,⟨ne (by decide),e0 (by decide),ne (by decide)⟩,⟨e0 (by decide),ne (by decide)⟩,e0' (by decide)⟩
 ·simp only[List.mem_cons,List.not_mem_nil,or_false,not_or]
  exact⟨lt a1 4,lt a1 2,lt a1 3,Nat.ne_of_lt a1,lt a1 1⟩
 ·simp only[List.mem_cons,List.not_mem_nil,or_false,not_or]
  exact⟨lt a2 4,lt a2 2,lt a2 3,Nat.ne_of_lt a2,lt a2 1⟩
end
end ZP
namespace L2
open PySem PySem.Spec PyProof.Rows ZP
section
variable {X:Cx}{pins:List (Addr×Obj)}{σ:St}{H:Hp}{s:Shared}
theorem Inv.turnL {h':Heap}{t':Nat}{fp:List Addr}(I:Inv X pins σ H s) (k:∀ b o,b∉fp->s.heap.get? b=some o->h'.get? b=some o) (hf:∀ b∈fp,FpOk X pins H b):Inv X pins σ H { s with heap:=h',toks:=t' }:=by
 have nit:∀ b u,H b=some u->b∉fp:=λ b u e z=>by rw[(hf b z).1] at e;cases e
 refine I.step (g':=s.gens) (d':=s.drawn) (ch:=fp) (λ b hb=>?_) (λ b o _ _ hc e _=>k b o hc e) (λ b o _ _ hc e _=>⟨o.slots,k b o hc e⟩) (λ _ _ _ _ n=>n)
  (λ b o hc e=>⟨o,k b o hc e⟩) (λ _ _ e=>e) (λ _ _ _ e=>e) (λ b ps e=>⟨#[],by rw[e];simp⟩) (λ m hm=>?_) (λ b u e=>?_) I.bare
 ·obtain⟨_,q1,_,q2,q3,q4⟩:=hf b hb
  exact⟨q2,q1,q3,q4⟩
 ·obtain⟨o,es,ep,ho,r⟩:=hm
  exact⟨o,es,ep,k _ o (λ z=>(hf _ z).2.1 rfl) ho,r⟩
 ·refine (I.hok b u e).stay (λ c v hc q=>k c v ?_ q) (λ _ q=>q) λ _ _ q=>q
  rcases hc with z | z
  ·rw[z];exact nit b u e
  ·exact nit c _ z
def Sqk (K:PySem.W.Frag) (H:Hp) (k:Bool) (a:Addr) (xs:List V):Prop:=match k with
 | true=>SqT K H a xs
 | false=>SqL K H a xs
theorem Sqk.of (I:Inv X pins σ H s) {k:Bool}{a:Addr}{xs:List V}(h:Sqk X.K H k a xs):∃ its:List Value,Vals xs its/\SQ s.heap k a its.toArray:=by
 cases k with
 | true=>obtain⟨its,rv,p,_⟩:=I.tuple h;exact⟨its,rv,p⟩
 | false=>obtain⟨its,rv,p,_⟩:=I.list h;exact⟨its,rv,p.isList⟩
theorem Sqk.inj (I:Inv X pins σ H s) {k:Bool}{a:Addr}{xs ys:List V}(h:Sqk X.K H k a xs) (h':Sqk X.K H k a ys):xs=ys:=by
 cases k with
 | true=>exact I.tuple_inj h h'
 | false=>exact I.list_inj h h'
def Itz (K:PySem.W.Frag) (k1 k2:Bool) (a1 a2:Addr):It:=
 ⟨λ i H=>∃ xs ys x y,Sqk K H k1 a1 xs/\Sqk K H k2 a2 ys/\xs[i]?=some x/\ys[i]?=some y,
   λ i H v H'=>∃ p x y,v=.ref p/\H p=none/\H'=upd H p (.tup [x,y])/\(∀ xs,Sqk K H k1 a1 xs->xs[i]?=some x)/\∀ ys,Sqk K H k2 a2 ys->ys[i]?=some y,
   λ i H=>∃ xs ys,Sqk K H k1 a1 xs/\Sqk K H k2 a2 ys/\(xs.length<=i\/ys.length<=i)⟩
theorem turn_zip {P:Program}{w:World}{K:PySem.W.Frag}{es:List Expr}{kk} {pos:Pos}{k1 k2:Bool}{z TI TO i1 i2 a1 a2:Addr}(D:Far z TI TO i1 i2 a1 a2):
  Turn P w K (.Tuple es kk pos) (Itz K k1 k2 a1 a2) [z,TI,TO,i1,i2] z (λ i h=>At h k1 k2 z TI TO i1 i2 a1 a2 .none i) where
 mem:=by simp
 obj:=λ i h st b hb=>by
  obtain⟨q1,q2,⟨_,_,q3⟩,⟨o1,q4,_,d1⟩,⟨o2,q5,_,d2⟩⟩:=st
  simp only[List.mem_cons,List.not_mem_nil,or_false] at hb
  rcases hb with e | e | e | e | e <;> subst e
  ·exact⟨_,q1,λ v z=>by cases z⟩
  ·exact⟨_,q2,λ v z=>by cases z⟩
  ·exact⟨_,q3,λ v z=>by cases z⟩
  ·exact⟨_,q4,λ v z=>by rw[d1] at z;cases z⟩
  ·exact⟨_,q5,λ v z=>by rw[d2] at z;cases z⟩
 keep:=λ i h h' st k=>st.keep k
 item:=by
  intro X hP hw hK hc i pins s σ H E I hf st hg
  subst hP hw hK
  obtain⟨xs,ys,x,y,g1,g2,hx,hy⟩:=hg
  obtain⟨it1,rv1,q1⟩:=g1.of I
  obtain⟨it2,rv2,q2⟩:=g2.of I
  obtain⟨u1,e1,r1⟩:=rv1.get hx
  obtain⟨u2,e2,r2⟩:=rv2.get hy
  refine ZP.item D st q1 q2 (x:=u1) (y:=u2) (by simpa using e1) (by simpa using e2) λ h' S' T' up=>⟨_,rfl,?_⟩
  refine wpAny_letOwnedTupleGo_zip S'.z λ h2 z2 sb=>?_
  have nT:s.heap.objs.size∉[z,TI,TO,i1,i2]:=λ hb=>by
   obtain⟨o,ho,_⟩:=(show ∃ o,s.heap.get? s.heap.objs.size=some o/\True from by
    obtain⟨w1,w2,⟨_,_,w3⟩,⟨o1,w4,_⟩,⟨o2,w5,_⟩⟩:=st
    simp only[List.mem_cons,List.not_mem_nil,or_false] at hb
    rcases hb with e | e | e | e | e <;> rw[e]
    ·exact⟨_,w1,trivial⟩
    ·exact⟨_,w2,trivial⟩
    ·exact⟨_,w3,trivial⟩
    ·exact⟨_,w4,trivial⟩
    ·exact⟨_,w5,trivial⟩)
   exact absurd (Heap.lt_size ho) (Nat.lt_irrefl _)
  have nz:s.heap.objs.size≠z:=λ e=>nT (by simp[e])
  have fr:H s.heap.objs.size=none:=I.hok.fresh (Nat.le_refl _)
  have I1:Inv X pins σ (upd H s.heap.objs.size (.tup [x,y])) { s with heap:=s.heap.push { cls:=.type "tuple",data:=.seq [u1,u2].toArray },toks:=s.toks }:=
   I.laid (o:=.tup [x,y]) (λ b u q=>Heap.get?_push_of_some _ q) (Nat.le_refl _) ⟨by show 2<=sizeLine;decide,[u1,u2],.cons r1 (.cons r2 .nil),IsTup.new _ _⟩
  have hf':∀ b∈[z,TI,TO,i1,i2],upd H s.heap.objs.size (.tup [x,y]) b=none:=λ b hb=>by
   rw[upd_ne (λ e=>nT (by rw[<- e];exact hb))]
   exact (hf b hb).1
  have kk:∀ b o,b∉[z,TI,TO,i1,i2]->(s.heap.push { cls:=.type "tuple",data:=.seq [u1,u2].toArray }).get? b=some o->h2.get? b=some o:=λ b o hb q=>by
   have hbz:b≠z:=λ e=>hb (by simp[e])
   by_cases hbs:b=s.heap.objs.size
   ·subst hbs
    rw[Heap.get?_push_size _ rfl] at q
    cases q
    exact sb.extBut _ _ nz T'
   ·have q':s.heap.get? b=some o:=by rw[Heap.get?_push_ne _ _ _ hbs] at q;exact q
    exact sb.extBut _ _ hbz (up b o hb q')
  have I2:=Inv.turnL (h':=h2) (t':=s.toks) (fp:=[z,TI,TO,i1,i2]) I1 kk λ b hb=>⟨hf' b hb,(hf b hb).2⟩
  refine⟨.ref s.heap.objs.size,_,I2,rfl,⟨_,x,y,rfl,fr,rfl,λ zs hz=>by rw[hz.inj I g1];exact hx,λ zs hz=>by rw[hz.inj I g2];exact hy⟩,⟨z2,?_,?_,?_,?_⟩,hf'⟩
  ·have nd:=D.nd
   simp only[List.nodup_cons,List.mem_cons,List.not_mem_nil,or_false,not_or] at nd
   exact sb.extBut _ _ (Ne.symm nd.1.1) S'.ti
  ·obtain⟨a,b,e⟩:=S'.to
   have nd:=D.nd
   simp only[List.nodup_cons,List.mem_cons,List.not_mem_nil,or_false,not_or] at nd
   exact⟨a,b,sb.extBut _ _ (Ne.symm nd.1.2.1) e⟩
  ·have nd:=D.nd
   simp only[List.nodup_cons,List.mem_cons,List.not_mem_nil,or_false,not_or] at nd
   exact S'.s1.on λ o q=>sb.extBut _ _ (Ne.symm nd.1.2.2.1) q
  ·have nd:=D.nd
   simp only[List.nodup_cons,List.mem_cons,List.not_mem_nil,or_false,not_or] at nd
   exact S'.s2.on λ o q=>sb.extBut _ _ (Ne.symm nd.1.2.2.2) q
 done:=by
  intro X hP hw hK hc i pins s σ H E I hf st hg
  subst hP hw hK
  obtain⟨xs,ys,g1,g2,hx⟩:=hg
  obtain⟨it1,rv1,q1⟩:=g1.of I
  obtain⟨it2,rv2,q2⟩:=g2.of I
  have l1:=rv1.length
  have l2:=rv2.length
  refine ZP.stop (I.ok.hd hc) D st q1 q2 ?_ λ h' up=>⟨rfl,I.turnL (t':=s.toks) up hf⟩
  rcases hx with hx | hx
  ·exact .inl (by simp;omega)
  ·exact .inr (by simp;omega)
 self:=λ _ _ _ _ _ st h=>wpAny_pyIter_zip st.z h
def iZip (K:PySem.W.Frag) (ta:TA):TI:=fun σ H R=>ta σ H λ vs H1=>∃ a1 a2 k1 k2,vs=[.ref a1,.ref a2]/\(∃ xs,Sqk K H1 k1 a1 xs)/\(∃ ys,Sqk K H1 k2 a2 ys)/\R (Itz K k1 k2 a1 a2) H1
theorem pi_zip {a b:Expr}{ta:TA}{p pos pos':Pos}{es:List Expr}{kk} (hg:Gl X "zip") (hm:X.mg "zip"=none) (ha:PA X [a,b] ta) (hs:starEach [a,b] X.env=[(false,eval a X.env),(false,eval b X.env)]:=by rfl) (hs2:starEach [b] X.env=[(false,eval b X.env)]:=by rfl):
  PI X (.Tuple es kk pos') (.Call (.Name "zip" p) [a,b] [] pos) (iZip X.K ta):=by
 intro pins s σ H R I h
 refine Call_ (ld_blt I hg hm boot_zip (PyProof.Rows.callWith_type1 (thn (ha pos pins s σ H _ I h) λ us s1 ⟨vs,H1,I1,r1,q1⟩=>?_) (by rw[hs,hs2]) (by rw[hs2];rfl)))
 obtain⟨a1,a2,k1,k2,rfl,⟨xs,g1⟩,⟨ys,g2⟩,q⟩:=q1
 cases r1 with
 | cons r rr=>
  cases rr with
  | cons r' rr=>
   cases rr
   cases r
   cases r'
   obtain⟨it1,_,q1⟩:=g1.of I1
   obtain⟨it2,_,q2⟩:=g2.of I1
   refine ZP.new q1 q2 λ h' z TI TO i1 i2 nw D S up=>wpAny_pyIter_zip S.z ?_
   exact⟨z,[z,TI,TO,i1,i2],_,_,H1,rfl,I1.kept (t':=s1.toks) up,turn_zip D,S,λ b hb=>I1.fpOk (nw b hb) (I1.hok.fresh (nw b hb)),q⟩
end
end L2
namespace L5
open PySem PySem.Spec L2 L3
open PyProof.Rows hiding St
section
variable {X:Cx}{K:PySem.W.Frag}{a b:Expr}{tA:TDA}{pos p pos':Pos}
def jZip (t:TDA):TDI:=fun δ S R=>t δ S λ ds S1=>∃ d e xs ys,ds=[d,e]/\seqOf d S1=some xs/\seqOf e S1=some ys/\R ⟨List.zipWith (λ x y=>D.tup [x,y]) xs ys,λ S=>seqOf d S=some xs/\seqOf e S=some ys⟩ S1
noncomputable def kOf:D->Bool
 | .tup _=>true
 | _=>false
theorem seqOf.k {H:Hp}{S:SS}{d:D}{v:V}{ds:List D}(r:RepD K H d v) (p:RepH K H S) (e:seqOf d S=some ds):∃ a xs,v=.ref a/\Sqk K H (kOf d) a xs/\RepDs K H ds xs:=by
 by_cases q:∃ ts,d=.tup ts
 ·obtain⟨ts,rfl⟩:=q
  cases e
  simp only[RepD] at r
  obtain⟨a,xs,h1,h2,h3⟩:=r
  exact⟨a,xs,h1,h2,h3⟩
 ·obtain⟨a,xs,h1,h2,h3⟩:=seq_sqL r p e λ ts z=>q ⟨ts,z⟩
  refine⟨a,xs,h1,?_,h3⟩
  have:kOf d=false:=by cases d <;> first | rfl | exact absurd ⟨_,rfl⟩ q
  rw[this];exact h2
end
end L5
namespace L5
open PySem PySem.Spec L2 L3
open PyProof.Rows hiding St
section
variable {X:Cx}{K:PySem.W.Frag}{a b:Expr}{tA:TDA}{pos p pos':Pos}{es:List Expr}{kk:Nat}
theorem pdi_zip (hm:X.mg "zip"=none) (ha:PDA X [a,b] tA) (hg:Gl X "zip":=by rfl) (hs:starEach [a,b] X.env=[(false,eval a X.env),(false,eval b X.env)]:=by rfl) (hs2:starEach [b] X.env=[(false,eval b X.env)]:=by rfl):
  PDI X (.Tuple es kk pos') (.Call (.Name "zip" p) [a,b] [] pos) (jZip tA):=by
 refine⟨fun δ S Q Q' hq z=>ha.mo δ S _ _ (λ ds S1 ⟨d,e,xs,ys,h1,h2,h3,h4⟩=>⟨d,e,xs,ys,h1,h2,h3,hq _ _ h4⟩) z,PI.imp (pi_zip hg hm ha.pa hs hs2) fun σ H R hu=>?_⟩
 obtain⟨δ,S,r1,r2,z⟩:=hu
 refine upA.go ha.mo r1 r2 z λ ds S1 vs H1 h1 q1 e1 p1=>?_
 obtain⟨d,e,xs,ys,rfl,s1,s2,h⟩:=h1
 obtain⟨v,u,rfl,d1,d2⟩:=q1.two
 obtain⟨a1,us,rfl,g1,g2⟩:=seqOf.k d1 p1 s1
 obtain⟨a2,ws,rfl,g3,g4⟩:=seqOf.k d2 p1 s2
 refine⟨a1,a2,kOf d,kOf e,rfl,⟨us,g1⟩,⟨ws,g3⟩,h _ H1 e1 p1 λ i H2 S2 x1 x2 hk=>?_⟩
 obtain⟨b1,us2,q1,m1,m2⟩:=seqOf.k (RepD.ext x1 d d1) x2 hk.1
 cases q1
 obtain⟨b2,ws2,q2,m3,m4⟩:=seqOf.k (RepD.ext x1 e d2) x2 hk.2
 cases q2
 have l1:=m2.length
 have l2:=m4.length
 refine⟨λ dd hd=>?_,λ hl=>⟨us2,ws2,m1,m3,?_⟩⟩
 ·rw[List.getElem?_zipWith] at hd
  split at hd
  ·rename_i dx dy hx hy
   cases hd
   obtain⟨x,hx',rx⟩:=m2.get hx
   obtain⟨y,hy',ry⟩:=m4.get hy
   refine⟨⟨us2,ws2,x,y,m1,m3,hx',hy'⟩,λ v H' q=>?_⟩
   obtain⟨pp,x',y',rfl,hp,rfl,f1,f2⟩:=q
   have ex:x'=x:=by have:=f1 _ m1;rw[hx'] at this;exact (Option.some.inj this).symm
   have ey:y'=y:=by have:=f2 _ m3;rw[hy'] at this;exact (Option.some.inj this).symm
   subst ex ey
   refine⟨.new hp _,x2.new hp,?_⟩
   simp only[RepD]
   exact⟨pp,_,rfl,SqT.of upd_same,RepDs.ext (.new hp _) _ (.cons rx (.cons ry .nil))⟩
  ·cases hd
 ·have hl':(List.zipWith (λ x y=>D.tup [x,y]) xs ys).length<=i:=hl
  rw[List.length_zipWith] at hl'
  omega
@[simp] noncomputable def zipS:List T->Option (List T)
 | [x,y]=>(seqT x).bind λ xs=>(seqT y).map λ ys=>List.zipWith (λ a b=>T.tup [a,b]) xs ys
 | _=>none
theorem sns_zip {S:SS}:∀ {ts us:List T}{ds es:List D},Sns S ts ds->Sns S us es->Sns S (List.zipWith (λ a b=>T.tup [a,b]) ts us) (List.zipWith (λ x y=>D.tup [x,y]) ds es)
 | [],us,ds,es,h,h'=>by simp only[Sns] at h;subst h;simpa using Sns.nil
 | t::ts,[],ds,es,h,h'=>by simp only[Sns] at h';subst h';simpa using Sns.nil
 | t::ts,u::us,ds,es,h,h'=>by
  simp only[Sns] at h h'
  obtain⟨c,cs,rfl,h1,h2⟩:=h
  obtain⟨c',cs',rfl,h3,h4⟩:=h'
  exact Sns.cons (sn_tup (Sns.cons h1 (Sns.cons h3 Sns.nil))) (sns_zip h2 h4)
theorem seqOf.sx {S S':SS}{d:D}{ds:List D}(h:seqOf d S=some ds) (s:Sx S S'):seqOf d S'=some ds:=by
 unfold seqOf at h ⊢
 split at h
 ·exact h
 ·exact h
 ·split at h
  ·rename_i q
   cases h
   rw[s _ _ q]
  ·cases h
 ·cases h
theorem oki_zipR {g:Ev->Option (List T)}(h:OkA g tA):OkI false (itA zipS g) (jZip tA):=λ S Z δ ρ ts Q hE e hq=>by
 obtain⟨ys,e1,e2⟩:=Option.bind_eq_some_iff.mp e
 refine h S Z δ ρ ys _ hE e1 λ ds S1 s1 r1=>?_
 unfold zipS at e2
 split at e2
 ·obtain⟨xs,e3,e4⟩:=Option.bind_eq_some_iff.mp e2
  obtain⟨zs,e5,rfl⟩:=Option.map_eq_some_iff.mp e4
  obtain⟨d,d',rfl,h1,h2⟩:=vws2 r1
  obtain⟨es,g1,g2⟩:=h1.seq e3
  obtain⟨es',g3,g4⟩:=h2.seq e5
  exact⟨d,d',es,es',rfl,g1,g3,hq _ S1 s1 (sns_zip g2 g4) λ S'' s=>⟨seqOf.sx g1 s,seqOf.sx g3 s⟩⟩
 ·cases e2
end
end L5
namespace HT
open PySem PyProof.Rows
section
variable {prog:Program}{w:World}{A:Around}{E:Value->Shared->Prop}{s:Shared}
theorem cut_whole {t sl:Addr}{items:Array Value}{vl vu:Value}{lo hi:Option Int}{Q:Value->Shared->Prop}(ht:IsTup s.heap t items) (hs:s.heap.IsSliceOf sl vl vu .none) (pl:IsPart vl lo) (pu:IsPart vu hi)
  (hw:sIx items.size 0 lo=0/\sIx items.size items.size hi=items.size) (h:Q (.ref t) s):wpAny (model prog w) A (getItem (.ref t) (.ref sl)) Q E s:=by
 have hT:=ht.typeIs
 obtain⟨os,e1,e2,e3⟩:=id hs
 have hS:s.TypeIs (.ref sl) "slice":=⟨os,e1,e2⟩
 unfold getItem
 try with_reducible refine wpAny_holding ?_
 first | refine wpAny_bind (wpAny_pure ?_) | skip
 refine wpAny_bind (wpAny_sequenceKey hT (by decide) (wpAny_bind (wpAny_callSpecial?_slot (name:=Str.ofString "__getitem__") hT PyProof.Rows.slot_tuple_getitem (wpAny_call_entry PyProof.Rows.slot_tuple_getitem hT entry_tuple_getitem ?_ (args_tuple_getitem _ _)))))
 refine wpAny_bind (m:=Builtin.Tuple.tupleItemsOf (.ref t)) (tupleItemsOf_ ht (wpAny_bind (wpAny_typeOf hS ?_)))
 rw[if_pos (by decide)]
 refine wpAny_bind (sliceApplied_gen hs pl pu ?_)
 have yes:(((sIx items.size 0 lo:Nat):Int) == 0&&(1:Int) == 1&&(sIx items.size items.size hi-sIx items.size 0 lo) == items.size)=true:=by rw[hw.1,hw.2];simp
 show wpAny _ _ (if (((sIx items.size 0 lo:Nat):Int) == 0&&(1:Int) == 1&&(sIx items.size items.size hi-sIx items.size 0 lo) == items.size)=true then _ else _) _ _ s
 rw[if_pos yes]
 refine wpAny_bind (m:=Builtin.Tuple.tupleIsExact (.ref t)) (wpAny_bind (wpAny_typeOf hT (wpAny_pure ?_)))
 rw[if_pos (by decide)]
 first
  | exact wpAny_bind (wpAny_rule (wpAny_pure ⟨_,rfl,wpAny_pure h⟩))
  | exact wpAny_bind (wpAny_rule (wpAny_bind (wpAny_pure (wpAny_pure ⟨_,rfl,wpAny_pure h⟩))))
end
end HT
namespace L2
open PySem PySem.Spec PyProof.Rows
section
variable {X:Cx}
def rSlW (K:PySem.W.Frag):V->Option Int->Option Int->Hp->VK->Prop:=λ x lo hi H Q=>∃ a xs,x=.ref a/\SqT K H a xs/\(HT.sIx xs.length 0 lo=0/\HT.sIx xs.length xs.length hi=xs.length)/\Q (.ref a) H
theorem sl_whole:SlR X (rSlW X.K):=by
 intro pins s σ H x v vl vu lo hi sl Q I rx hs pl pu h
 obtain⟨a,xs,rfl,hx,hw,q⟩:=h
 cases rx
 obtain⟨its,r,ht,hz⟩:=I.tuple hx
 have hlen:its.toArray.size=xs.length:=by rw[List.size_toArray];exact r.length.symm
 exact⟨"tuple",_,PyProof.Rows.slot_tuple_getitem.lookup,ht.typeIs,HT.cut_whole ht hs pl pu (by rw[hlen];exact hw) ⟨.ref a,H,I,rfl,q⟩⟩
end
end L2
namespace L5
open PySem PySem.Spec L2 L3
open PyProof.Rows hiding St
noncomputable def cutL {α:Type}(xs:List α) (lo hi:Option Int):List α:=(xs.drop (HT.sIx xs.length 0 lo)).take (HT.sIx xs.length xs.length hi-HT.sIx xs.length 0 lo)
section
variable {X:Cx}{K:PySem.W.Frag}{e:Expr}{lo hi:Option Expr}{te:TDE}{tl th:Option TDE}{pos p2:Pos}
def dBnd (t:Option TDE):StD->SS->(Option Int->SS->Prop)->Prop:=fun δ S Q=>match t with
 | none=>Q none S
 | some t=>t δ S λ d S1=>match d with
  | .int i=>Q (some i) S1
  | _=>False
def MoO (t:Option TDE):Prop:=∀ u,t=some u->MoE u
theorem dBnd.mo (h:MoO tl):∀ δ S (Q Q':Option Int->SS->Prop),(∀ d S',Q d S'->Q' d S')->dBnd tl δ S Q->dBnd tl δ S Q':=fun δ S Q Q' hq z=>by
 cases tl with
 | none=>exact hq _ _ z
 | some t=>exact h t rfl δ S _ _ (λ d S1 z=>by cases d <;> first | exact hq _ _ z | exact z) z
noncomputable def upO (K:PySem.W.Frag) (t:Option TDE):TO:=fun σ H Q=>∃ δ S,RepSt K H δ σ/\RepH K H S/\dBnd t δ S λ o S1=>∀ H1,Ext H H1->RepH K H1 S1->Q o H1
structure PDO (X:Cx) (e:Option Expr) (t:Option TDE):Prop where
 mo:MoO t
 po:PO X e (upO X.K t)
theorem pdo_none:PDO X none none:=⟨nofun,λ pins s σ H Q I h=>by
 obtain⟨δ,S,r1,r2,z⟩:=h
 exact po_none pins s σ H Q I (z H (.refl H) r2)⟩
theorem pdo_some (h:PD X e te):PDO X (some e) (some te):=⟨λ u q=>by cases q;exact h.mo,λ pins s σ H Q I hu=>by
 refine po_some h.pe pins s σ H Q I ?_
 obtain⟨δ,S,r1,r2,z⟩:=hu
 refine upE.go h.mo r1 r2 z λ d S1 v H1 h1 q1 e1 p1=>?_
 cases d with
 | int i=>simp only[RepD] at q1;exact⟨i,q1,h1 H1 e1 p1⟩
 | non=>exact h1.elim
 | bl _=>exact h1.elim
 | str _=>exact h1.elim
 | err _ _ _=>exact h1.elim
 | tup _=>exact h1.elim
 | rol _=>exact h1.elim
 | ref _=>exact h1.elim⟩
def fSl (d:D) (lo hi:Option Int) (S:SS) (Q:DK):Prop:=match d with
 | .tup ds=>Q (.tup (cutL ds lo hi)) S
 | d=>∃ ds,seqOf d S=some ds/\∀ p,S p=none->Q (.ref p) (ups S p (.lst (cutL ds lo hi)))
theorem fSl.mo {d:D}{lo hi:Option Int}{S:SS}{Q Q':DK}(hq:∀ d S',Q d S'->Q' d S') (h:fSl d lo hi S Q):fSl d lo hi S Q':=by
 unfold fSl at h ⊢
 split at h
 ·exact hq _ _ h
 ·obtain⟨ds,h1,h2⟩:=h
  exact⟨ds,h1,λ p hp=>hq _ _ (h2 p hp)⟩
theorem RepDs.cut {H:Hp}{ds:List D}{xs:List V}(h:RepDs K H ds xs) (lo hi:Option Int):RepDs K H (cutL ds lo hi) (cutV xs lo hi):=by
 have hd:∀ {ds:List D}{xs:List V}(n:Nat),RepDs K H ds xs->RepDs K H (ds.drop n) (xs.drop n):=by
  intro ds
  induction ds with
  | nil=>intro xs n h;simp only[RepDs] at h;subst h;simpa using RepDs.nil
  | cons d ds ih=>
   intro xs n h
   simp only[RepDs] at h
   obtain⟨y,ys,rfl,h1,h2⟩:=h
   cases n with
   | zero=>exact .cons h1 h2
   | succ n=>exact ih n h2
 have ht:∀ {ds:List D}{xs:List V}(n:Nat),RepDs K H ds xs->RepDs K H (ds.take n) (xs.take n):=by
  intro ds
  induction ds with
  | nil=>intro xs n h;simp only[RepDs] at h;subst h;simpa using RepDs.nil
  | cons d ds ih=>
   intro xs n h
   simp only[RepDs] at h
   obtain⟨y,ys,rfl,h1,h2⟩:=h
   cases n with
   | zero=>exact .nil
   | succ n=>exact .cons h1 (ih n h2)
 unfold cutL cutV
 rw[h.length]
 exact ht _ (hd _ h)
theorem cutV_whole {xs:List V}{lo hi:Option Int}(h:HT.sIx xs.length 0 lo=0/\HT.sIx xs.length xs.length hi=xs.length):cutV xs lo hi=xs:=by
 unfold cutV
 rw[h.1,h.2]
 simp
abbrev rSl (K:PySem.W.Frag):V->Option Int->Option Int->Hp->VK->Prop:=λ x lo hi H Q=>rSlL K x lo hi H Q\/(rSlT K x lo hi H Q\/rSlW K x lo hi H Q)
theorem fSl.fits {d:D}{v:V}{lo hi:Option Int}{H:Hp}{S:SS}{Q:VK}(h1:RepD K H d v) (h2:RepH K H S) (h:fSl d lo hi S (dnK K H Q)):rSl K v lo hi H Q:=by
 unfold fSl at h
 split at h
 ·simp only[RepD] at h1
  obtain⟨a,xs,rfl,g1,g2⟩:=h1
  by_cases hw:HT.sIx xs.length 0 lo=0/\HT.sIx xs.length xs.length hi=xs.length
  ·refine .inr (.inr ⟨a,xs,rfl,g1,hw,h _ H ?_ (.refl H) h2⟩)
   simp only[RepD]
   refine⟨a,xs,rfl,g1,?_⟩
   have:=RepDs.cut g2 lo hi
   rw[cutV_whole hw] at this
   exact this
  ·refine .inr (.inl ⟨a,xs,rfl,g1,hw,λ p hp=>h _ _ ?_ (.new hp _) (h2.new hp)⟩)
   simp only[RepD]
   exact⟨p,_,rfl,SqT.of upd_same,RepDs.ext (.new hp _) _ (RepDs.cut g2 lo hi)⟩
 ·rename_i hn
  obtain⟨ds,e,h⟩:=h
  obtain⟨a,xs,rfl,g1,g2⟩:=seq_sqL h1 h2 e (λ ts z=>hn ts z)
  exact .inl ⟨a,xs,rfl,g1,λ p hp=>h p (h2.none hp) _ _ (by simp only[RepD]) (.new hp _) (h2.ups (.new hp _) ⟨_,upd_same,RepDs.ext (.new hp _) _ (RepDs.cut g2 lo hi)⟩)⟩
def dSl (te:TDE) (tl th:Option TDE):TDE:=fun δ S Q=>te δ S λ x S1=>dBnd tl δ S1 λ l S2=>dBnd th δ S2 λ u S3=>fSl x l u S3 Q
theorem pd_slice (he:PD X e te) (hl:PDO X lo tl) (hh:PDO X hi th):PD X (.Subscript e (.Slice lo hi none p2) pos) (dSl te tl th):=by
 refine⟨fun δ S Q Q' hq z=>he.mo δ S _ _ (λ x S1 z=>dBnd.mo hl.mo δ S1 _ _ (λ l S2 z=>dBnd.mo hh.mo δ S2 _ _ (λ u S3 z=>fSl.mo hq z) z) z) z,
  PE.imp (pe_slice (sl_list.or (sl_tup.or sl_whole)) he.pe hl.po hh.po) fun σ H Q hu=>?_⟩
 obtain⟨δ,S,r1,r2,z⟩:=hu
 refine upE.go he.mo r1 r2 z λ x S1 v H1 h1 q1 e1 p1=>?_
 refine⟨δ,S1,r1.ext e1,p1,dBnd.mo hl.mo δ S1 _ _ (λ l S2 h2 H2 e2 p2=>?_) h1⟩
 refine⟨δ,S2,(r1.ext e1).ext e2,p2,dBnd.mo hh.mo δ S2 _ _ (λ u S3 h3 H3 e3 p3=>?_) h2⟩
 exact fSl.fits (RepD.ext (e2.trans e3) x q1) p3 (fSl.mo (λ d S' z=>z.ext ((e1.trans e2).trans e3)) h3)
@[simp] noncomputable def bndS:Option (Ev->Option T)->Ev->Option (Option Int)
 | none,_=>some none
 | some f,ρ=>(f ρ).bind λ x=>match x with
  | .int i=>some (some i)
  | _=>none
def OkB (f:Option (Ev->Option T)) (t:Option TDE):Prop:=∀ S Z δ ρ y Q,ER S Z δ ρ->bndS f ρ=some y->(∀ S',Sx S S'->Q y S')->dBnd t δ S Q
theorem okb_none:OkB none none:=λ S Z δ ρ y Q hE e hq=>by cases e;exact hq S (.refl S)
theorem okb_some {f:Ev->Option T}(h:OkR f te):OkB (some f) (some te):=λ S Z δ ρ y Q hE e hq=>by
 obtain⟨x,e1,e2⟩:=Option.bind_eq_some_iff.mp e
 refine h S Z δ ρ x _ hE e1 λ d S1 s1 r1=>?_
 split at e2
 ·cases e2
  cases Vw.int r1
  exact hq S1 s1
 ·cases e2
@[simp] noncomputable def cutT (lo hi:Option Int):T->Option T
 | .tup ts=>some (.tup (cutL ts lo hi))
 | .lst ts=>some (.lst (cutL ts lo hi))
 | _=>none
@[simp] noncomputable def slcS (f:Ev->Option T) (lo hi:Option (Ev->Option T)):Ev->Option T:=fun ρ=>(f ρ).bind λ x=>(bndS lo ρ).bind λ l=>(bndS hi ρ).bind λ u=>cutT l u x
theorem Sns.cut {S:SS}{ts:List T}{ds:List D}(h:Sns S ts ds) (lo hi:Option Int):Sns S (cutL ts lo hi) (cutL ds lo hi):=by
 unfold cutL
 rw[h.len]
 exact Sns.take' _ (Sns.drop' _ h)
theorem ok_slc {f:Ev->Option T}{l u:Option (Ev->Option T)}(h:OkR f te) (hl:OkB l tl) (hu:OkB u th):OkF (slcS f l u) (dSl te tl th):=λ S Z δ ρ y Q hE e hq=>by
 obtain⟨x,e1,e⟩:=Option.bind_eq_some_iff.mp e
 obtain⟨l',e2,e⟩:=Option.bind_eq_some_iff.mp e
 obtain⟨u',e3,e⟩:=Option.bind_eq_some_iff.mp e
 refine h S Z δ ρ x _ hE e1 λ d S1 s1 r1=>?_
 refine hl S1 Z δ ρ l' _ (hE.grow s1) e2 λ S2 s2=>?_
 refine hu S2 Z δ ρ u' _ (hE.grow (s1.trans s2)) e3 λ S3 s3=>?_
 have r3:Vw S3 Z x d:=Vw.grow r1 (s2.trans s3)
 have hz:=(hE.grow ((s1.trans s2).trans s3)).zd
 unfold cutT at e
 split at e
 ·cases e
  obtain⟨ds,rfl,h2⟩:=r3.tup
  exact hq _ S3 ((s1.trans s2).trans s3) (Cl.of (λ _=>nofun) (sn_tup (Sns.cut h2 _ _)))
 ·cases e
  obtain⟨ds,h1,h2⟩:=r3.seq rfl
  have key:∃ ds,seqOf d S3=some ds/\∀ p,S3 p=none->Q (.ref p) (ups S3 p (.lst (cutL ds l' u'))):=⟨ds,h1,λ p hp=>hq _ _ (((s1.trans s2).trans s3).trans (.new hp _)) (Cl.cl ((s1.trans s2).trans s3) (rkF_new hz hp (Sns.cut h2 _ _)))⟩
  obtain⟨_,q | ⟨a,q,_⟩,_⟩:=r3.lst
  ·subst q;exact key
  ·subst q;exact key
 ·cases e
end
end L5
namespace TM
open PySem PyProof.Rows
set_option maxRecDepth 100000
theorem noFill:fillsNumberSlot (.type "tuple") "mul"=pure false:=
 PySem.fillsNumberSlot_seq (id:="tuple.__mul__") (r:=some (.builtin "tuple.__rmul__")) F.slot_tuple_mul.lookup (by decide +kernel) F.slot_tuple_rmul.lookup (by decide +kernel)
theorem rep:seqRepeat? (.type "tuple")=pure (some (.builtin "tuple.__mul__")):=by
 have a:=PySem.seqSlot_of (T:="tuple") (name:="__mul__") (id:="tuple.__mul__") F.slot_tuple_mul.lookup (by decide +kernel)
 have b:=PySem.seqSlot_of (T:="tuple") (name:="__rmul__") (id:="tuple.__rmul__") F.slot_tuple_rmul.lookup (by decide +kernel)
 unfold seqRepeat?
 rw[a,b]
 rfl
theorem declines (i:Int) (t:Tok) (l:Addr) (items:Array Value) (n:Nat) (dd:Option Addr) (sl:Array (Option Value)):
  Meets (Builtin.«int.__rmul__» ⟨[.int i t,.ref l],[]⟩) (λ _ R s=>s.heap.get? l=some { cls:=.type "tuple",dict:=dd,data:=.seq items n,slots:=sl }/\R (.ok (.ret Value.notImplemented)) s):=
 .of_wp λ prog w A R s h=>by
  obtain⟨hp,g,d,tk,os⟩:=s
  obtain⟨hl,h⟩:=h
  wp_walk
  exact⟨_,rfl,h⟩
theorem foldl_flat {α:Type}(xs:List α):∀ (m:Nat) (acc:Array α),(List.replicate m xs.toArray).foldl (·++·) acc=acc++(List.replicate m xs).flatten.toArray
 | 0,acc=>by simp
 | m+1,acc=>by
  rw[List.replicate_succ,List.foldl_cons,foldl_flat xs m,List.replicate_succ,List.flatten_cons,Array.append_assoc]
  simp
theorem mulT (k:Int) (t:Tok) (l:Addr) (items:Array Value) (n:Nat) (dd:Option Addr) (sl:Array (Option Value)) (h1:¬ (decide (k < -(2 ^ 63))||decide (k≥2 ^ 63))=true) (h2:¬ (items.isEmpty||k == 1)=true) (h3:¬ (decide (k<=0)||items.isEmpty)=true)
  (h4:¬ (items.size*k>(2 ^ 63-1)/8)) (h5:¬ Builtin.Tuple.tupleTooMany (items.size*k)=true) (h6:((List.replicate k.toNat items).foldl (·++·) #[]).size<=sizeLine):
  Meets (Builtin.«tuple.__mul__» ⟨[.ref l,.int k t],[]⟩) (λ _ R s=>s.heap.get? l=some { cls:=.type "tuple",dict:=dd,data:=.seq items n,slots:=sl }/\
   R (.ok (.ret (.ref s.heap.objs.size))) { s with heap:=s.heap.push { cls:=.type "tuple",data:=.seq ((List.replicate k.toNat items).foldl (·++·) #[]) } }):=
 .of_wp λ prog w A R s h=>by
  obtain⟨hp,g,d,tk,os⟩:=s
  obtain⟨hl,h⟩:=h
  have e0:IsTup (Shared.heap ⟨hp,g,d,tk,os⟩) l items:=⟨_,hl,rfl,n,rfl⟩
  wp_walk
  rw[if_neg h1]
  refine wpAny_bind (m:=Builtin.Tuple.tupleItemsOf (.ref l)) (tupleItemsOf_ e0 ?_)
  dsimp only
  rw[if_neg h2,if_neg h3,if_neg h4,if_neg h5]
  exact wpAny_bind (m:=Builtin.Tuple.tupleExact _) (wpAny_newObj_type (wpAny_pure ⟨_,rfl,h⟩) h6)
theorem mul1 (t:Tok) (l:Addr) (items:Array Value) (n:Nat) (dd:Option Addr) (sl:Array (Option Value)):
  Meets (Builtin.«tuple.__mul__» ⟨[.ref l,.int 1 t],[]⟩) (λ _ R s=>s.heap.get? l=some { cls:=.type "tuple",dict:=dd,data:=.seq items n,slots:=sl }/\R (.ok (.ret (.ref l))) s):=
 .of_wp λ prog w A R s h=>by
  obtain⟨hp,g,d,tk,os⟩:=s
  obtain⟨hl,h⟩:=h
  have c:(items.isEmpty||(1:Int) == 1)=true:=by simp
  wp_walk
  exact⟨_,rfl,h⟩
section
variable {prog:Program}{w:World}{A:Around}{E:Value->Shared->Prop}{s:Shared}
theorem times {l:Addr}{its:List Value}{k:Int}{t:Tok}{Q:Value->Shared->Prop}(ht:IsTup s.heap l its.toArray) (hne:its≠[]) (h0:1<=k) (hz:its.length*k.toNat<=sizeLine)
  (one:k=1->Q (.ref l) s) (more:k≠1->Q (.ref s.heap.objs.size) { s with heap:=s.heap.push { cls:=.type "tuple",data:=.seq (List.replicate k.toNat its).flatten.toArray } }):
  wpAny (model prog w) A (binaryOp .Mult (.ref l) (.int k t)) Q E s:=by
 have hT:=ht.typeIs
 obtain⟨⟨cls,dd,data,sl⟩,ho,hc,n,hd⟩:=id ht
 simp only at hc hd
 subst hc hd
 refine wpAny_binaryOp_repeat_ref (T:="tuple") (U:="int") (by decide) hT (λ s'=>typeIs_int s' k t) noFill F.fills_int_mul F.slot_int_rmul rep F.slot_int_index.lookup
  (call_meets F.slot_int_rmul (typeIs_int s k t) F.entry_int_rmul (F.args_int_rmul_2 _ _) (declines k t l its.toArray n dd sl) ⟨ho,rfl,hT,?_⟩)
 have hlen:0<its.length:=List.length_pos_iff.mpr hne
 have hem:its.toArray.isEmpty=false:=by cases its with
  | nil=>exact absurd rfl hne
  | cons a r=>rfl
 by_cases h1:k=1
 ·subst h1
  exact call_meets F.slot_tuple_mul hT F.entry_tuple_mul (F.args_tuple_mul_2 _ _) (mul1 t l its.toArray n dd sl) ⟨ho,one rfl⟩
 ·have hks:k.toNat<=sizeLine:=Nat.le_trans (Nat.le_mul_of_pos_left _ hlen) hz
  have hl:sizeLine=16777216:=rfl
  have hk2:k<=16777216:=by omega
  have hcast:((its.toArray.size:Nat):Int)*k=((its.length*k.toNat:Nat):Int):=by
   rw[List.size_toArray,Int.natCast_mul,Int.toNat_of_nonneg (by omega)]
  have hf:(List.replicate k.toNat its.toArray).foldl (·++·) #[]=(List.replicate k.toNat its).flatten.toArray:=by rw[foldl_flat];simp
  have hfl:(List.replicate k.toNat its).flatten.length=k.toNat*its.length:=by simp
  refine call_meets F.slot_tuple_mul hT F.entry_tuple_mul (F.args_tuple_mul_2 _ _) (mulT k t l its.toArray n dd sl ?_ ?_ ?_ ?_ ?_ ?_) ⟨ho,?_⟩
  ·simp only[Bool.or_eq_true,decide_eq_true_eq,not_or]
   exact⟨by omega,by omega⟩
  ·rw[hem];simpa using h1
  ·rw[hem];simp;omega
  ·rw[hcast];omega
  ·rw[hcast]
   intro q
   unfold Builtin.Tuple.tupleTooMany at q
   have:=of_decide_eq_true q
   omega
  ·rw[hf,List.size_toArray,hfl,Nat.mul_comm];exact hz
  ·rw[hf];exact more h1
end
end TM
namespace L2
open PySem PySem.Spec PyProof.Rows
def rMulT (K:PySem.W.Frag):R2:=λ x y H Q=>∃ a k xs,x=.ref a/\y=.int k/\SqT K H a xs/\xs≠[]/\1<=k/\xs.length*k.toNat<=sizeLine/\(k=1->Q (.ref a) H)/\(k≠1->∀ p,H p=none->Q (.ref p) (upd H p (.tup (List.replicate k.toNat xs).flatten)))
theorem op_mulT {X:Cx}:OpR X (binaryOp .Mult) (rMulT X.K):=by
 intro pins s σ H x y v u Q I rx ry h
 obtain⟨a,k,xs,rfl,rfl,hx,hne,h1,hz,q1,q2⟩:=h
 cases rx
 obtain⟨t,rfl⟩:=ry
 obtain⟨its,r,ht,_⟩:=I.tuple hx
 have hl:=r.length
 refine TM.times ht (λ z=>hne (r.nil_iff.mp z)) h1 (by rw[<- hl];exact hz) (λ e=>⟨.ref a,H,I,rfl,q1 e⟩) λ e=>?_
 have hlen:(List.replicate k.toNat xs).flatten.length<=sizeLine:=by
  have:(List.replicate k.toNat xs).flatten.length=k.toNat*xs.length:=by simp
  rw[this,Nat.mul_comm];exact hz
 exact⟨.ref _,_,I.laid (t':=s.toks) (o:=.tup (List.replicate k.toNat xs).flatten) (λ b ob q=>Heap.get?_push_of_some _ q) (Nat.le_refl _) ⟨hlen,_,r.rep k.toNat,IsTup.new _ _⟩,rfl,q2 e _ (I.hok.fresh (Nat.le_refl _))⟩
end L2
namespace L5
open PySem PySem.Spec L2 L3
open PyProof.Rows hiding St
section
variable {X:Cx}{K:PySem.W.Frag}{a b:Expr}{ta tb:TDE}{pos:Pos}
def fMulV:RD2:=λ x y S Q=>match x,y with
 | .int i,.int j=>CMul i j/\Q (.int (i*j)) S
 | .tup ds,.int k=>(ds≠[]/\1<=k/\ds.length*k.toNat<=sizeLine)/\Q (.tup (List.replicate k.toNat ds).flatten) S
 | _,_=>False
noncomputable def mulS:T->T->Option T
 | .int i,.int j=>if CMul i j then some (.int (i*j)) else none
 | .tup ts,.int k=>if ts≠[]/\1<=k/\ts.length*k.toNat<=sizeLine then some (.tup (List.replicate k.toNat ts).flatten) else none
 | _,_=>none
theorem fMulV.mo:MoR fMulV:=λ x y S Q Q' hq h=>by
 unfold fMulV at h ⊢
 split at h
 ·exact⟨h.1,hq _ _ h.2⟩
 ·exact⟨h.1,hq _ _ h.2⟩
 ·exact h.elim
theorem RepDs.rep {H:Hp}{ds:List D}{xs:List V}(h:RepDs K H ds xs):∀ n:Nat,RepDs K H (List.replicate n ds).flatten (List.replicate n xs).flatten
 | 0=>.nil
 | n+1=>by
  rw[List.replicate_succ,List.replicate_succ,List.flatten_cons,List.flatten_cons]
  exact h.append (RepDs.rep h n)
theorem fMulV.fits:Fits2 K fMulV (λ x y H Q=>rI CMul (λ i j=>.int (i*j)) x y H Q\/rMulT K x y H Q):=λ x y d e H S Q h1 h2 h3 h=>by
 unfold fMulV at h
 split at h
 ·simp only[RepD] at h1 h2
  exact .inl ⟨_,_,h1,h2,h.1,h.2 _ H (by simp only[RepD]) (.refl H) h3⟩
 ·rename_i ds k
  obtain⟨⟨c1,c2,c3⟩,h⟩:=h
  have h1':=h1
  simp only[RepD] at h1 h2
  obtain⟨a,xs,rfl,g1,g2⟩:=h1
  have hl:=g2.length
  refine .inr ⟨a,k,xs,rfl,h2,g1,λ z=>c1 (by subst z;cases ds with | nil=>rfl | cons _ _=>simp at hl),c2,by rw[<- hl];exact c3,λ e=>?_,λ e p hp=>?_⟩
  ·subst e
   refine h _ H ?_ (.refl H) h3
   have:(List.replicate (1:Int).toNat ds).flatten=ds:=by simp
   rw[this];exact h1'
  ·refine h _ _ ?_ (.new hp _) (h3.new hp)
   simp only[RepD]
   exact⟨p,_,rfl,SqT.of upd_same,RepDs.ext (.new hp _) _ (RepDs.rep g2 _)⟩
 ·exact h.elim
theorem Sns.rep {S:SS}{ts:List T}{ds:List D}(h:Sns S ts ds):∀ n:Nat,Sns S (List.replicate n ts).flatten (List.replicate n ds).flatten
 | 0=>.nil
 | n+1=>by
  rw[List.replicate_succ,List.replicate_succ,List.flatten_cons,List.flatten_cons]
  exact h.append (Sns.rep h n)
theorem good_mul:Good2 RkF mulS fMulV:=λ S Z x y z d e Q hz hx hy ef hq=>by
 unfold mulS at ef
 split at ef
 ·split at ef
  ·rename_i hc
   cases ef
   cases hx.int;cases hy.int
   exact⟨hc,hq _ S (.refl S) (Cl.of (λ _=>nofun) sn_int)⟩
  ·cases ef
 ·split at ef
  ·rename_i hc
   cases ef
   obtain⟨ds,rfl,h2⟩:=hx.tup
   cases hy.int
   have hl:=h2.len
   exact⟨⟨λ q=>hc.1 (by subst q;simpa using hl.symm),hc.2.1,by rw[hl];exact hc.2.2⟩,hq _ S (.refl S) (Cl.of (λ _=>nofun) (sn_tup (Sns.rep h2 _)))⟩
  ·cases ef
 ·cases ef
theorem pd_mulV (ha:PD X a ta) (hb:PD X b tb):PD X (.BinOp a .Mult b pos) (dOp fMulV ta tb):=pd_op (op_mul.or op_mulT) fMulV.fits fMulV.mo ha hb
end
end L5
namespace L4
open PySem PyProof.Rows
section
variable {prog:Program}{w:World}{A:Around}{E:Value->Shared->Prop}{s:Shared}
end
section
open L2 PySem.Spec
variable {X:Cx}
end
end L4
namespace L5
open PySem PySem.Spec L2 L3
open PyProof.Rows hiding St
section
variable {X:Cx}{K:PySem.W.Frag}{e:Expr}{es:List Expr}{tA:TDA}{pos p pos2 p2:Pos}
theorem CallR.or {f:Value}{r r':List V->Hp->VK->Prop}(h:CallR X f r) (h':CallR X f r'):CallR X f (λ xs H Q=>r xs H Q\/r' xs H Q):=λ pins s σ H xs us Q I rv q=>
 q.elim (λ q=>h pins s σ H xs us Q I rv q) λ q=>h' pins s σ H xs us Q I rv q
end
end L5
namespace L2
open PySem PySem.Spec PyProof.Rows
section
variable {X:Cx}
end
end L2
namespace L5
open PySem PySem.Spec L2 L3
open PyProof.Rows hiding St
section
variable {X:Cx}{K:PySem.W.Frag}{e:Expr}{tA:TDA}{pos p pos2 p2:Pos}
end
end L5
namespace ST
open PySem PySem.SetTable PySem.Spec PyProof.Rows L2
theorem intsPerm {us us':List Value}(p:us'.Perm us):∀ {ms:List Int},IntsAre us ms->∃ ms',IntsAre us' ms'/\ms'.Perm ms:=by
 induction p with
 | nil=>intro ms h;exact⟨ms,h,.refl _⟩
 | cons x _ ih=>
  intro ms h
  cases h with
  | cons n t h=>
   obtain⟨ms',h1,h2⟩:=ih h
   exact⟨n::ms',.cons n t h1,h2.cons n⟩
 | swap x y l=>
  intro ms h
  cases h with
  | cons n t h=>
   cases h with
   | cons m u h=>exact⟨m::n::_,.cons m u (.cons n t h),.swap _ _ _⟩
 | trans _ _ ih1 ih2=>
  intro ms h
  obtain⟨m1,h1,h2⟩:=ih2 h
  obtain⟨m2,h3,h4⟩:=ih1 h1
  exact⟨m2,h3,h4.trans h2⟩
theorem SetI.at {prog:Program}{w:World}{h:Heap}{a:Addr}{xs:List (Int×Tok)}(S:SetI prog w h a xs (ledOf w)):SetO w a (xs.map λ e=>Value.int e.1 e.2) h:=by
 obtain⟨⟨es,ep,t,ho,he,T,h1,h2,h3⟩,_⟩:=S
 have hm:7<=t.mask/\t.mask<=127:=by rcases T.mask with e | e | e <;> omega
 have hlen:es.size=xs.length:=by have:=congrArg List.length he;simpa using this
 exact⟨es,ep,t,⟨ho,fits_of (n:=xs.length) hlen T (by simp) (by omega),T.ris,h1,h2⟩,by rw[he,List.map_map];rfl⟩
theorem ints_of_map:∀ xs:List (Int×Tok),IntsAre (xs.map λ e=>Value.int e.1 e.2) (xs.map (·.1))
 | []=>.nil
 | e::xs=>.cons e.1 e.2 (ints_of_map xs)
theorem vals_of:∀ {us:List Value}{ns:List Int},IntsAre us ns->Vals (ns.map V.int) us
 | _,_,.nil=>.nil
 | _,_,.cons n t h=>.cons ⟨t,rfl⟩ (vals_of h)
section
variable {X:Cx}
theorem call_setIR (hc:X.calm=true):CallR X (.type "set") (λ xs H Q=>∃ p,∃ ns:List Int,xs=[.ref p]/\SqL X.K H p (ns.map V.int)/\ns.length<64/\
  ∀ (l:Addr) (us:List Value) (ms:List Int),H l=none->IntsAre us ms->ms.Nodup->(∀ n,n∈ms↔n∈ns)->Q (.ref l) (upd H l (.ext (SetO X.w l us)))):=by
 intro pins s σ H xs us Q I r h
 obtain⟨p,ns,rfl,hq,h64,q⟩:=h
 obtain⟨u,rfl,ru⟩:=vals1 r
 cases ru
 obtain⟨its,rv,pl,hz⟩:=I.list hq
 have hl:=rv.length
 rw[List.length_map] at hl
 have iA:IntsAre its ns:=intsAre_of rv
 have nums:Nums its.toArray ns:=λ i v hv=>by
  have hv':its[i]?=some v:=by simpa using hv
  have hi:i<ns.length:=by rw[hl];exact (List.getElem?_eq_some_iff.mp hv').1
  obtain⟨u,e1,t,e2⟩:=rv.get (i:=i) (x:=V.int ns[i]) (by simp[hi])
  rw[hv'] at e1;cases e1
  exact⟨ns[i],t,e2,by simp[hi]⟩
 have hh:X.A.handled=none:=I.ok.hd hc
 refine call_setI (A:=X.A) hh pl.isList nums (by rw[List.size_toArray];omega) λ h' tk xs S U k=>?_
 have kk:∀ b o,s.heap.get? b=some o->h'.get? b=some o:=λ b o e=>k b o (Heap.lt_size e) e
 have hSO:=S.at
 refine⟨.ref s.heap.objs.size,_,I.laid (t':=tk) (o:=.ext (SetO X.w s.heap.objs.size (xs.map λ e=>Value.int e.1 e.2))) kk (Nat.le_refl _) ?_,rfl,q _ _ (xs.map (·.1)) (I.hok.fresh (Nat.le_refl _)) (ints_of_map xs) S.nd λ n=>⟨λ hn=>?_,λ hn=>?_⟩⟩
 ·obtain⟨es,ep,t,St,e⟩:=id hSO
  exact⟨hSO,⟨_,St.get⟩,λ h1 h2 S1 k=>S1.stay k⟩
 ·obtain⟨e,he,rfl⟩:=List.mem_map.mp hn
  obtain⟨j,_,hj⟩:=U.own e he
  exact List.mem_of_getElem? hj
 ·obtain⟨j,hj⟩:=List.mem_iff_getElem?.mp hn
  exact U.all j n (by have:=(List.getElem?_eq_some_iff.mp hj).1;rw[List.size_toArray];omega) hj
theorem call_sortedSI (hc:X.calm=true):CallR X (.builtin "sorted") (λ xs H Q=>∃ l us,∃ ms:List Int,xs=[.ref l]/\H l=some (.ext (SetO X.w l us))/\IntsAre us ms/\ms.length<64/\
  ∀ (p:Addr) (ns:List Int),H p=none->ns.Perm ms->ns.Pairwise (·<=·)->Q (.ref p) (upd H p (.lst (ns.map V.int)))):=by
 intro pins s σ H xs us0 Q I r h
 obtain⟨l,us,ms,rfl,hl,hm,h64,q⟩:=h
 obtain⟨u,rfl,ru⟩:=vals1 r
 cases ru
 obtain⟨⟨es,ep,t,S,eu⟩,-,-⟩:=(show ObjOk X.prog X.w H s.heap l (.ext (SetO X.w l us)) from I.hok l _ hl)
 have hlen:es.size=us.length:=by rw[<- eu];simp
 have hml:=hm.length
 have hh:X.A.handled=none:=I.ok.hd hc
 have hp:((comes X.w l es ep).toList.map (·.2)).Perm us:=by rw[<- eu];exact (comes_perm X.w l es ep).map _
 obtain⟨ms',i1,i2⟩:=intsPerm hp hm
 have hcl:=hp.length_eq
 have hl24:sizeLine=16777216:=rfl
 refine sorted_set (Out:=λ out=>∃ ns',IntsAre out.toList ns'/\ns'.Perm ms'/\ns'.Pairwise (·<=·)) hh S (by rw[hlen,hml];omega) (λ s6 h2 k=>L4.core_ints i1 (by rw[hcl,<- hlen];exact h2) (by rw[hcl,hml];exact h64)) (λ h1=>⟨ms',by simpa using i1,.refl _,?_⟩) λ out h' tk p ho hs hp' k hat=>?_
 ·have:ms'.length<2:=by rw[<- i1.length,hcl,<- hlen];exact h1
  match ms',this with
  | [],_=>exact .nil
  | [_],_=>exact List.pairwise_singleton _ _
 ·obtain⟨ns,g1,g2,g3⟩:=ho
  obtain⟨e,he⟩:=hat
  refine⟨.ref p,_,I.laid (t':=tk) (o:=.lst (ns.map V.int)) k hp' ?_,rfl,q p ns (I.hok.fresh hp') (g2.trans i2) g3⟩
  exact⟨by rw[List.length_map,g2.length_eq,i2.length_eq];omega,out.toList,e,vals_of g1,by simpa using he⟩
end
end ST
namespace L5
open PySem PySem.Spec L2 L3
open PyProof.Rows hiding St
noncomputable def insI (n:Int):List Int->List Int
 | []=>[n]
 | m::l=>if n<m then n::m::l else if n=m then m::l else m::insI n l
noncomputable def upI:List Int->List Int
 | []=>[]
 | n::ns=>insI n (upI ns)
theorem mem_insI {n k:Int}:∀ {l:List Int},k∈insI n l↔k=n\/k∈l
 | []=>by simp[insI]
 | m::l=>by
  unfold insI
  split
  ·simp
  ·split
   ·rename_i h;subst h;simp
   ·rw[List.mem_cons,mem_insI,List.mem_cons]
    constructor
    ·rintro (h | h | h)
     ·exact .inr (.inl h)
     ·exact .inl h
     ·exact .inr (.inr h)
    ·rintro (h | h | h)
     ·exact .inr (.inl h)
     ·exact .inl h
     ·exact .inr (.inr h)
theorem mem_upI {k:Int}:∀ {l:List Int},k∈upI l↔k∈l
 | []=>.rfl
 | n::l=>by unfold upI;rw[mem_insI,mem_upI,List.mem_cons]
theorem insI_up {n:Int}:∀ {l:List Int},l.Pairwise (· < ·)->(insI n l).Pairwise (· < ·)
 | [],_=>List.pairwise_singleton _ _
 | m::l,h=>by
  have h':=List.pairwise_cons.mp h
  unfold insI
  split
  ·rename_i c
   refine List.pairwise_cons.mpr ⟨λ x hx=>?_,h⟩
   rcases List.mem_cons.mp hx with e | e
   ·rw[e];exact c
   ·exact Int.lt_trans c (h'.1 x e)
  ·split
   ·exact h
   ·rename_i c1 c2
    refine List.pairwise_cons.mpr ⟨λ x hx=>?_,insI_up h'.2⟩
    rcases mem_insI.mp hx with e | e
    ·rw[e];omega
    ·exact h'.1 x e
theorem upI_up:∀ l:List Int,(upI l).Pairwise (· < ·)
 | []=>.nil
 | n::l=>insI_up (upI_up l)
theorem up_unique {l m:List Int}(h1:l.Nodup) (h2:l.Pairwise (·<=·)) (h3:m.Pairwise (· < ·)) (h:∀ k,k∈l↔k∈m):l=m:=by
 have nm:m.Nodup:=h3.imp λ h e=>by omega
 refine L4.perm_eq (r:=λ a b:Int=>a<=b) (λ a b p q=>by omega) ((List.perm_ext_iff_of_nodup h1 nm).mpr h) h2 (h3.imp λ h=>by omega)
section
variable {X:Cx}{K:PySem.W.Frag}{e:Expr}{tA:TDA}{pos pos2 p p2:Pos}
def fSortSetV:RDn:=λ ds S Q=>fSortSet ds S Q\/∃ d,∃ ns:List Int,ds=[d]/\(∀ ts,d≠.tup ts)/\seqOf d S=some (ns.map D.int)/\ns.length<64/\∀ l,S l=none->Q (.ref l) (ups S l (.lst ((upI ns).map D.int)))
noncomputable def sortsetV:List T->Option T
 | [.lst ts]=>match intsT ts with
  | some ns=>if ns.length<64 then some (.lst ((upI ns).map T.int)) else none
  | none=>sortsetS [.lst ts]
 | _=>none
theorem good_sortsetV:GoodN RkF sortsetV fSortSetV:=λ S Z ys z ds Q hz hv e hq=>by
 unfold sortsetV at e
 split at e
 ·split at e
  ·rename_i ns hns
   split at e
   ·rename_i hc
    cases e
    cases intsT_some hns
    obtain⟨d,rfl,h1⟩:=vws1 hv
    obtain⟨es,h2,h3⟩:=h1.seq rfl
    cases sns_ints.mp h3
    refine .inr ⟨d,ns,rfl,?_,h2,hc,λ l hl=>hq _ _ (.new hl _) (rkF_new hz hl (sns_ints.mpr rfl))⟩
    obtain⟨_,q | ⟨a,q,_⟩,_⟩:=h1.lst <;> subst q <;> exact λ _=>nofun
   ·cases e
  ·exact .inl (good_sortset S Z _ z ds Q hz hv e hq)
 ·cases e
theorem fSortSetV.mo:MoN fSortSetV:=λ ds S Q Q' hq h=>by
 rcases h with h | ⟨d,ns,h1,h2,h3,h4,h5⟩
 ·exact .inl (fSortSet.mo ds S Q Q' hq h)
 ·exact .inr ⟨d,ns,h1,h2,h3,h4,λ l hl=>hq _ _ (h5 l hl)⟩
theorem fitsI {w:World}{xs:List V}{H:Hp}{S:SS}{Q:VK}{d:D}{ns:List Int}(h0:RepDs K H [d] xs) (h2:RepH K H S) (hn:∀ ts,d≠.tup ts) (e:seqOf d S=some (ns.map D.int)) (h64:ns.length<64) (h:∀ l,S l=none->dnK K H Q (.ref l) (ups S l (.lst ((upI ns).map D.int)))):
  ∃ p,∃ ns':List Int,xs=[.ref p]/\SqL K H p (ns'.map V.int)/\ns'.length<64/\
   ∀ (l:Addr) (us:List Value) (ms:List Int),H l=none->IntsAre us ms->ms.Nodup->(∀ n,n∈ms↔n∈ns')->
    ∃ l' us',∃ ms':List Int,[V.ref l]=[.ref l']/\(upd H l (.ext (ST.SetO w l us))) l'=some (.ext (ST.SetO w l' us'))/\IntsAre us' ms'/\ms'.length<64/\
     ∀ (p:Addr) (ns:List Int),(upd H l (.ext (ST.SetO w l us))) p=none->ns.Perm ms'->ns.Pairwise (·<=·)->Q (.ref p) (upd (upd H l (.ext (ST.SetO w l us))) p (.lst (ns.map V.int))):=by
 obtain⟨x,hx,h1⟩:=h0.one;subst hx
 obtain⟨a,ys,rfl,g1,g2⟩:=seq_sqL h1 h2 e hn
 rw[g2.ints] at g1
 refine⟨a,ns,rfl,g1,h64,λ l us ms hf hi nd hmem=>⟨l,us,ms,rfl,upd_same,hi,?_,λ p ns2 hp pm srt=>?_⟩⟩
 ·have:=ST.nodup_sub ms ns nd λ x hx=>(hmem x).mp hx
  omega
 ·have x1:Ext H (upd H l (.ext (ST.SetO w l us))):=.new hf _
  have hpl:p≠l:=λ z=>by subst z;rw[upd_same] at hp;cases hp
  have hpH:H p=none:=by rw[upd_ne hpl] at hp;exact hp
  have x2:Ext (upd H l (.ext (ST.SetO w l us))) (upd (upd H l (.ext (ST.SetO w l us))) p (.lst (ns2.map V.int))):=.new hp _
  have heq:ns2=upI ns:=up_unique (pm.nodup_iff.mpr nd) srt (upI_up ns) λ k=>by rw[pm.mem_iff,hmem,mem_upI]
  refine h p (h2.none hpH) _ _ (by simp only[RepD]) (x1.trans x2) ((h2.new hf).ups x2 ⟨_,upd_same,?_⟩)
  rw[<- heq]
  exact RepDs.of_ints ns2
theorem pd_sortsetV {k:Nat}(hr:Room k X.A) (hm:X.mg "sorted"=none) (hm2:X.mg "set"=none) (ha:PDA X [e] tA) (hc:X.calm=true:=by rfl) (hg:Gl X "sorted":=by rfl) (hg2:Gl X "set":=by rfl)
  (he2:starEach [e] X.env=(false,eval e X.env)::starEach [] X.env:=by rfl)
  (he:starEach [.Call (.Name "set" p2) [e] [] pos2] X.env=(false,eval (.Call (.Name "set" p2) [e] [] pos2) X.env)::starEach [] X.env:=by rfl) (hpl:(backTo pos (starEach [] X.env)).any (·.1)=false:=by rfl) (hpl2:(backTo pos2 (starEach [] X.env)).any (·.1)=false:=by rfl):
  PD X (.Call (.Name "sorted" p) [.Call (.Name "set" p2) [e] [] pos2] [] pos) (dCB fSortSetV tA):=by
 have h:=pe_callB (p:=p) (CallR.or (ST.call_sortedS hc) (ST.call_sortedSI hc)) hg hm boot_sorted (pa_cons (pe_callTy (CallR.or (ST.call_setR hc hr.units) (ST.call_setIR hc)) hg2 hm2 PyProof.Rows.boot_set ha.pa (by decide) (by decide) he2 hpl2) pa_nil he) (by decide) (by decide) he hpl
 refine⟨dCB.mo fSortSetV.mo ha.mo,PE.imp h fun σ H Q hu=>?_⟩
 obtain⟨δ,S,r1,r2,z⟩:=hu
 refine upA.go ha.mo r1 r2 z λ ds S1 xs H1 h1 q1 e1 p1=>?_
 rcases h1 with h1 | ⟨d,ns,rfl,c1,c2,c3,h1⟩
 ·obtain⟨p,ys,rows,a1,a2,a3,a4,a5⟩:=fSortSet.fits (w:=X.w) xs ds H1 S1 Q q1 p1 (fSortSet.mo ds S1 _ _ (λ d S' z=>z.ext e1) h1)
  exact .inl ⟨p,ys,rows,a1,a2,a3,a4,λ l us vs rs b1 b2 b3=>.inl (a5 l us vs rs b1 b2 b3)⟩
 ·obtain⟨p,ns',a1,a2,a3,a4⟩:=fitsI (w:=X.w) q1 p1 c1 c2 c3 (λ l hl=>(h1 l hl).ext e1)
  exact .inr ⟨p,ns',a1,a2,a3,λ l us ms b1 b2 b3 b4=>.inr (a4 l us ms b1 b2 b3 b4)⟩
end
end L5
namespace HT
open PySem PyProof.Rows
section
variable {prog:Program}{w:World}{A:Around}{E:Value->Shared->Prop}{s:Shared}
end
end HT
namespace L2
open PySem PySem.Spec PyProof.Rows
section
variable {X:Cx}{e st:Expr}{te:TE}{pos p2:Pos}
end
end L2
namespace L5
open PySem PySem.Spec L2 L3
open PyProof.Rows hiding St
section
variable {X:Cx}{K:PySem.W.Frag}{e st:Expr}{te:TDE}{pos p2 p3 p4:Pos}
end
end L5
namespace L5
open PySem L2 L3
theorem good_le:Good2 RkF leI fLe:=good_i2 (λ _ _ _=>sn_bl) λ _ _ _=>nofun
end L5
namespace L5
open PySem PySem.Spec L2 L3
open PyProof.Rows hiding St
section
variable {X:Cx}{e:Expr}{te:TDE}{pos p q:Pos}
end
end L5
namespace L3
open PySem PyProof.Rows L2
section
variable {X:Cx}{pos:Pos}
end
end L3
namespace L5
open PySem PyProof.Rows L2 L3
end L5
namespace ZP
open PySem PyProof.Rows
set_option maxRecDepth 100000
section
variable {prog:Program}{w:World}{A:Around}{E:Value->Shared->Prop}{s:Shared}
end
end ZP
namespace L2
open PySem PySem.Spec PyProof.Rows ZP
section
variable {X:Cx}{pins:List (Addr×Obj)}{σ:St}{H:Hp}{s:Shared}
end
end L2
namespace L5
open PySem PySem.Spec L2 L3
open PyProof.Rows hiding St
section
variable {X:Cx}{K:PySem.W.Frag}{a:Expr}{tA:TDA}{pos p pos':Pos}{es:List Expr}{kk:Nat}
end
end L5
namespace TM
open PySem PyProof.Rows
set_option maxRecDepth 100000
section
variable {prog:Program}{w:World}{A:Around}{E:Value->Shared->Prop}{s:Shared}
end
end TM
namespace L2
open PySem PySem.Spec PyProof.Rows
end L2
namespace L5
open PySem PySem.Spec L2 L3
open PyProof.Rows hiding St
section
variable {X:Cx}{K:PySem.W.Frag}{a b:Expr}{ta tb:TDE}{pos:Pos}
end
end L5
namespace L3
open PySem PySem.Spec PyProof.Rows L2
section
variable {X:Cx}{K:PySem.W.Frag}{e o:Expr}{te to:TDE}{apos cpos:Pos}
end
end L3
namespace L5
open PySem L2 L3
section
variable {R:Rk}{f:Ev->Option T}{te:TDE}
end
end L5
namespace L5
open PySem PySem.Spec L2 L3
open PyProof.Rows hiding St
section
variable {X:Cx}{K:PySem.W.Frag}{e:Expr}{es:List Expr}{tA:TDA}{pos p:Pos}
end
end L5
namespace L2
open PySem PySem.Spec PyProof.Rows
section
variable {X:Cx}{e st:Expr}{te ts:TE}{pos p2:Pos}
end
end L2
namespace L5
open PySem PySem.Spec L2 L3
open PyProof.Rows hiding St
section
variable {X:Cx}{K:PySem.W.Frag}{e st:Expr}{te ts:TDE}{pos p2:Pos}
end
end L5
namespace L5
section
variable {α:Type}{P:List α->Prop}
theorem ar1 (h:∀ a,P [a]) (us:List α) (hl:us.length=1):P us:=match us,hl with | [a],_=>h a
theorem ar2 (h:∀ a b,P [a,b]) (us:List α) (hl:us.length=2):P us:=match us,hl with | [a,b],_=>h a b
theorem ar3 (h:∀ a b c,P [a,b,c]) (us:List α) (hl:us.length=3):P us:=match us,hl with | [a,b,c],_=>h a b c
theorem ar4 (h:∀ a b c d,P [a,b,c,d]) (us:List α) (hl:us.length=4):P us:=match us,hl with | [a,b,c,d],_=>h a b c d
theorem ar5 (h:∀ a b c d e,P [a,b,c,d,e]) (us:List α) (hl:us.length=5):P us:=match us,hl with | [a,b,c,d,e],_=>h a b c d e
theorem ar6 (h:∀ a b c d e f,P [a,b,c,d,e,f]) (us:List α) (hl:us.length=6):P us:=match us,hl with | [a,b,c,d,e,f],_=>h a b c d e f
theorem ar7 (h:∀ a b c d e f g,P [a,b,c,d,e,f,g]) (us:List α) (hl:us.length=7):P us:=match us,hl with | [a,b,c,d,e,f,g],_=>h a b c d e f g
theorem ar8 (h:∀ a b c d e f g i,P [a,b,c,d,e,f,g,i]) (us:List α) (hl:us.length=8):P us:=match us,hl with | [a,b,c,d,e,f,g,i],_=>h a b c d e f g i
end
end L5
namespace L5
open PySem PySem.Spec L2 L3
open PyProof.Rows hiding St
section
variable {P:Program}{w:World}{K:PySem.W.Frag}{mg:Str->Option Value}{base h:Heap}{x:Str}{st:Stmt}
def Fx (K:PySem.W.Frag) (x:Str) (st:Stmt):Prop:=∃ (f:Addr) (oc:Value) (od:Option Addr) (kV dc pm:Value) (an:Option Addr) (cd ct:Value) (sl:Array (Option Value)),
 PySem.W.nsIn K mainGlobals x=some (some (.ref f))/\K.lookup f=some ⟨oc,od,.func (PySem.W.fnOf x x (defArgs st) (defBody st) (defScope st) .none kV dc pm an cd ct),sl⟩/\PySem.W.codeIn K cd x=true/\PySem.W.keepIn K (.ref f)=true
theorem Fx.i {f:Addr}{oc:Value}{od:Option Addr}{kV dc pm:Value}{an:Option Addr}{cd ct:Value}{sl:Array (Option Value)}(a:PySem.W.nsIn K mainGlobals x=some (some (.ref f))) (l:K.lookup f=some ⟨oc,od,.func (PySem.W.fnOf x x (defArgs st) (defBody st) (defScope st) .none kV dc pm an cd ct),sl⟩) (c:PySem.W.codeIn K cd x=true) (k:PySem.W.keepIn K (.ref f)=true):Fx K x st:=⟨f,oc,od,kV,dc,pm,an,cd,ct,sl,a,l,c,k⟩
def Fy (K:PySem.W.Frag) (mg:Str->Option Value) (x:Str) (st:Stmt):Prop:=∃ (f:Addr) (fd:FuncData),Fun K x x st f fd/\mg x=some (.ref f)
theorem Fx.mk (H:Fx K x st) (X:K.In h) (G:h.Ns mainGlobals mg):Fy K mg x st:=by
 obtain⟨f,oc,od,kV,dc,pm,an,cd,ct,sl,a,l,c,k⟩:=H
 exact⟨f,_,fun_mk l c k,PySem.W.mg_of X G a⟩
theorem Fx.law {fa:Addr}{p:Str}(H:Fx K "law" st) (X:K.In h) (G:h.Ns mainGlobals mg) (hfa:mg "law"=some (.ref fa)) (hb:∀ (kV dc pm:Value) (an:Option Addr) (cd ct:Value) (s:Shared) (v:Value),BindsTo s (PySem.W.fnOf "law" "law" (defArgs st) (defBody st) (defScope st) .none kV dc pm an cd ct) ⟨[v],[]⟩ [(p,v)]):∃ fd:FuncData,Fun K "law" "law" st fa fd/\∀ (s:Shared) (v:Value),BindsTo s fd ⟨[v],[]⟩ [(p,v)]:=by
 obtain⟨f,oc,od,kV,dc,pm,an,cd,ct,sl,a,l,c,k⟩:=H
 have e:=hfa.symm.trans (PySem.W.mg_of X G a)
 cases e
 exact⟨_,fun_mk l c k,hb kV dc pm an cd ct⟩
theorem fd6 {R:Rk} [Lo R] {N ps:List Str}{k n:Nat}{g:Sm}(F:Fy K mg x st) (Sc:FnScope N ps (defScope st)) (hn:n=ps.length)
  (hb:∀ (kV doc pm:Value) (an:Option Addr) (cdv ct:Value) (us:List Value),us.length=ps.length->bindArgs (PySem.W.fnOf x x (defArgs st) (defBody st) (defScope st) .none kV doc pm an cdv ct) ⟨us,[]⟩=pure (ps.zip us))
  (hbody:∀ (f:Addr) (cdv:Value) (A:Around) (outer:List Env) (s:Shared) (H:Hp) (E:XK),Room k (A.deeper (envOfC x (defScope st) s.heap.objs.size f cdv))->
   ∃ t,PDSs (cxOf CX0 P w K mg base N x (defScope st) f cdv A outer s H E).nox (defBody st) t/\OkS R g t):FD P w K mg base x (k+1) ps (spF R (runB N n g)):=by
 obtain⟨f,fd,F,hm⟩:=F
 exact fd5 F hm Sc hn hb (hbody f)
end
end L5
namespace PySem
section
variable {prog:Program}{w:World}{A:Around}{E:Value->Shared->Prop}{h:Heap}{g:Array GenState}{d:Drawn}{t:Nat}{os:OsState}
variable {nm q:Str}{C N:Addr}{bs bm bmB:List Value}{hdct:Bool}{sn:List Str}{sub:List Value}{ab:Bool}{col:Option Bool}{dd:Option Addr}{k0 k1 k2 k3 k5:Option Value}{B newId initId:String}
theorem xc_type_call (F:ExcBaseFacts B newId initId bmB) (T:OwnTail h bmB bm) {mN:Str->Option Value}{rest:List Value}{fI:Addr}{oI:Obj}{Q:Fin->Shared->Prop}
  (hC:h.get? C=some (excClassObj nm q C N bs bm hdct sn sub ab col dd k0 k1 k2 k3 k5 newId)) (hn:h.Ns N mN) (hi:mN "__init__"=some (.ref fI))
  (hfI:h.get? fI=some oI) (hfc:oI.cls=.type "function")
  (hq:∀ h' e,h.objs.size<=e->Heap.MadeExcOf h h' e (.ref C) rest->
   wpAny (model prog w) A (call (.ref fI) (.ref e::rest)) (λ r s'=>r=.none/\Q (.done (.ret (.ref e))) s') E ⟨h',g,d,t,os⟩) (hrest:rest.length<=sizeLine):
  wpAny (model prog w) A (Builtin.«type.__call__» ⟨.ref C::rest,[]⟩) Q E ⟨h,g,d,t,os⟩:=by
 repeat (first | with_reducible refine wpAny_loadPart_at hC ?_ | with_reducible refine wpAny_madeBy_exc hC ?_ | wp_step)
 refine codeAny_call_builtin_code (Code.quiet_builtin _ F.quiet) (wpAny_check_new_subT F T hC ?_)
 refine codeAny_exc_new_subT F T hC ?_ hrest
 show wpAny _ _ _ _ _ _
 have up:∀ b o,h.get? b=some o->((h.push { cls:=.type "tuple",data:=.seq rest.toArray }).push { cls:=.ref C,data:=.fields #[.ref h.objs.size,.none,.none,.none,.bool false,.none] }).get? b=some o:=λ b o e=>Heap.get?_push_of_some _ (Heap.get?_push_of_some _ e)
 have hC₁:=up _ _ hC
 have hfI₁:=up _ _ hfI
 have hget:((h.push { cls:=.type "tuple",data:=.seq rest.toArray }).push
   { cls:=.ref C,data:=.fields #[.ref h.objs.size,.none,.none,.none,.bool false,.none] }).get? (h.objs.size+1)=some
   { cls:=.ref C,data:=.fields #[.ref h.objs.size,.none,.none,.none,.bool false,.none] }:=by heap_get
 have hcC:(Value.ref C::bm).contains (.ref C)=true:=by simp
 unfold isInstance
 repeat (first | with_reducible refine wpAny_loadPart_at hget ?_ | (with_reducible refine wpAny_isSubtype_exc hC₁ ?_;rw[hcC]) | wp_step)
 show wpAny _ _ (typeLookup (.ref C) _) _ _ _
 refine wpAny_typeLookup_tail hC₁ (hn.keeps up) (T.keeps up) F.mroIs F.init.lookup ?_
 rw[hi]
 refine wpAny_holding (wpAny_bind ?_)
 unfold bindSpecial
 refine wpAny_bind (wpAny_typeOf (T:="function") ⟨_,hfI₁,hfc⟩ ?_)
 rw[if_pos (by decide)]
 refine wpAny_pure (wpAny_bind (wpAny_mono (hq _ (h.objs.size+1) (Nat.le_succ _) ⟨up,Heap.get?_none_of_le (Nat.le_succ _),h.objs.size,hget,Heap.get?_none_of_le (Nat.le_refl _),?_⟩) (λ r s' hr=>?_) λ _ _ x=>x))
 ·exact Heap.get?_push_of_some _ (Heap.get?_push_at rfl rfl)
 ·obtain⟨rfl,hQ⟩:=hr
  wp_walk
  exact hQ
theorem xc_call (F:ExcBaseFacts B newId initId bmB) (T:OwnTail h bmB bm) {mN:Str->Option Value}{rest:List Value}{fI:Addr}{oI:Obj}{Q:Value->Shared->Prop}
  (hC:h.get? C=some (excClassObj nm q C N bs bm hdct sn sub ab col dd k0 k1 k2 k3 k5 newId)) (hn:h.Ns N mN) (hi:mN "__init__"=some (.ref fI))
  (hfI:h.get? fI=some oI) (hfc:oI.cls=.type "function")
  (hq:∀ h' e,h.objs.size<=e->Heap.MadeExcOf h h' e (.ref C) rest->
   wpAny (model prog w) (A.under (.builtin "type.__call__" ⟨.ref C::rest,[]⟩)) (call (.ref fI) (.ref e::rest)) (λ r s'=>r=.none/\Q (.ref e) s') E ⟨h',g,d,t,os⟩) (hrest:rest.length<=sizeLine):
  wpAny (model prog w) A (call (.ref C) rest) Q E ⟨h,g,d,t,os⟩:=by
 have f1:=tc_lookup
 have f2:=tc_bind (.ref C)
 have hT:(⟨h,g,d,t,os⟩:Shared).TypeIs (.ref C) "type":=⟨_,hC,rfl⟩
 refine wpAny_call (codeAny_of_tree ?_)
 show wpAny _ _ (callAny (.ref C) _) _ _ _
 repeat (any_goals (first | assumption | with_reducible refine wpAny_loadPart_at hC ?_ | wp_step))
 refine⟨rfl,?_⟩
 exact codeAny_call_builtin_at (Code.quiet_builtin _ (by decide +kernel)) entry_typeCall (wpAny_check_type_call_sub hC (xc_type_call F T hC hn hi hfI hfc (λ h' e hl hm=>hq h' e hl hm) hrest))
theorem xc_raise {M:Model}{env:Env}{s:Shared}{x:Sem Value}{Q:Flow->Shared->Prop}(hbase:bm.contains (.type "BaseException")=true) (hh:A.handled=none)
  (hx:wpAny M A x (λ v s₁=>∃ e dct vs sl,v=.ref e/\s₁.heap.get? C=some (excClassObj nm q C N bs bm hdct sn sub ab col dd k0 k1 k2 k3 k5 newId)/\
   s₁.heap.get? e=some { cls:=.ref C,dict:=dct,data:=.fields #[.ref vs,.none,.none,.none,.bool false,.none],slots:=sl }/\E (.ref e) s₁) E s):
  wpAny M A (raiseStmt env (some x) none) Q E s:=by
 have hcB:(Value.ref C::bm).contains (.type "BaseException")=true:=by rw[List.contains_cons,hbase,Bool.or_true]
 unfold raiseStmt
 refine wpAny_bind (wpAny_mono hx (λ v s₁ h₁=>?_) λ _ _ x=>x)
 obtain⟨e,dct,vs,sl,rfl,hC,he,hE⟩:=h₁
 obtain⟨hp,g,d,tk,os⟩:=s₁
 repeat (first | with_reducible refine wpAny_loadPart_at he ?_ | with_reducible refine wpAny_loadPart_at hC ?_ | (with_reducible refine wpAny_isSubtype_exc hC ?_;rw[hcB]) | wp_step)
 exact wpAny_raiseNew_none hh hE
end
end PySem
namespace PySem
open Builtin Builtin.ObjectAttr
section
variable {prog:Program}{w:World}{M:Model}{A:Around}{E:Value->Shared->Prop}{h:Heap}{g:Array GenState}{d:Drawn}{t:Nat}{os:OsState}
variable {nm q:Str}{C N P x:Addr}{bs bmB:List Value}{hdct:Bool}{sn:List Str}{sub:List Value}{ab:Bool}{col:Option Bool}{dd:Option Addr}{k0 k1 k2 k3 k5:Option Value}{B newId:String}
 {mN mP:Str->Option Value}{name:Str}{v:Value}
structure XPar (h:Heap) (P:Addr) (mP:Str->Option Value):Prop where
 ex:∃ (c0:Value) (dd:Option Addr) (cd:ClassData) (sl:Array (Option Value)),h.get? P=some { cls:=c0,dict:=dd,data:=.cls cd,slots:=sl }/\h.Ns cd.ns mP
theorem xc_lookup {n:Str}{y:Option Value}{Q:Option Value->Shared->Prop}
  (hC:h.get? C=some (excClassObj nm q C N bs (.ref P::bmB) hdct sn sub ab col dd k0 k1 k2 k3 k5 newId)) (hn:h.Ns N mN) (hP:XPar h P mP) (hbm:mroOf (.type B)=pure bmB) (hB:typeLookup (.type B) n=pure y)
  (h1:mN n=none) (h2:mP n=none) (hq:Q y ⟨h,g,d,t,os⟩):wpAny M A (typeLookup (.ref C) n) Q E ⟨h,g,d,t,os⟩:=by
 obtain⟨c0,pd,cd,sl,hA,hN⟩:=hP.ex
 have hrest:lookupAlong bmB n=pure y:=by rw[typeLookup_eq,hbm] at hB;exact hB
 rw[typeLookup_eq]
 refine wpAny_bind (wpAny_mroOf_exc hC ?_)
 rw[lookupAlong_cons]
 refine wpAny_bind (wpAny_classOwn_exc hC hn ?_)
 rw[h1]
 show wpAny M A (lookupAlong (.ref P::bmB) n) Q E _
 rw[lookupAlong_cons]
 refine wpAny_bind (wpAny_classOwn_cls hA hN ?_)
 rw[h2]
 show wpAny M A (lookupAlong bmB n) Q E _
 rw[hrest]
 exact wpAny_pure hq
theorem xc_check_sa {o:Obj}{nameV:Value}{Q:Unit->Shared->Prop}{sa owner:String}(SF:StoreFacts B bmB sa owner)
  (hC:h.get? C=some (excClassObj nm q C N bs (.ref P::bmB) true sn sub ab col dd k0 k1 k2 k3 k5 newId)) (hx:h.get? x=some o) (hc:o.cls=.ref C) (hq:Q () ⟨h,g,d,t,os⟩):
  wpAny M A (checkBuiltinCall sa ⟨[.ref x,nameV,v],[]⟩) Q E ⟨h,g,d,t,os⟩:=by
 have hcB:(Value.ref C::.ref P::bmB).contains (.type owner)=true:=by rw[List.contains_cons,List.contains_cons,SF.hasOwner,Bool.or_true,Bool.or_true]
 have ha:=SF.args (.ref x) nameV v
 simp only[checkBuiltinCall,SF.kind,SF.split]
 refine wpAny_bind ?_
 unfold isInstance
 repeat (first | (with_reducible refine wpAny_loadPart_at hx ?_;rw[hc]) | (with_reducible refine wpAny_isSubtype_exc hC ?_;rw[hcB]) | wp_step)
 cases hsig:Manifest.signature? sa with
 | none=>exact wpAny_pure hq
 | some sig=>
  simp only[argsOk,hsig] at ha
  have h2:Bind.checkArgs sa sig ⟨[.ref x,nameV,v],[]⟩=pure ():=ha
  show wpAny M A (Bind.checkArgs sa sig ⟨[.ref x,nameV,v],[]⟩) Q E _
  rw[h2];exact wpAny_pure hq
theorem xc_store_entry {tk:Tok}{Q:Fin->Shared->Prop}{sa owner:String}{o:Obj}(SF:StoreFacts B bmB sa owner)
  (hC:h.get? C=some (excClassObj nm q C N bs (.ref P::bmB) true sn sub ab col dd k0 k1 k2 k3 k5 newId)) (hn:h.Ns N mN) (hP:XPar h P mP) (hna:mN name=none) (hpa:mP name=none)
  (hB:typeLookup (.type B) name=pure none) (hx:h.get? x=some o) (hc:o.cls=.ref C) (hdn:o.dict=none) (hnc:∀ c,o.data≠.cls c)
  (hq:∀ h' tk',h'.get? x=some { o with dict:=some h.objs.size }->h'.Ns1 h.objs.size (λ y=>if y=name then some v else none)->
   (∀ b o,b≠x->h.get? b=some o->h'.get? b=some o)->Q (.done (.ret .none)) ⟨h',g,d,tk',os⟩):
  wpAny (model prog w) A (Builtin.«object.__setattr__» ⟨[.ref x,.str name tk,v],[]⟩) Q E ⟨h,g,d,t,os⟩:=by
 have hpass:=SF.passes (.ref x)
 unfold Builtin.«object.__setattr__»
 repeat (first | rw[refuse_eq] | (rw[refuseLoop_ref,refuseLoop_ref,hpass]) | (with_reducible refine wpAny_loadPart_at hx ?_;rw[hc]) | with_reducible refine wpAny_mroOf_exc hC ?_ | (with_reducible refine xc_lookup hC hn hP SF.mro hB hna hpa ?_) | wp_step)
 rw[hdn,if_neg (by simp[typeHasDict])]
 split
 ·rename_i hcd
  cases hcd
 split
 ·rename_i c hcd
  exact absurd hcd (hnc c)
 ·have hx₁:(h.push { cls:=.type "dict",data:=.dict #[] }).get? x=some o:=Heap.get?_push_of_some _ hx
  have hxs:x≠h.objs.size:=Nat.ne_of_lt (Heap.lt_size hx)
  refine wpAny_bind (wpAny_alloc' ?_)
  refine wpAny_bind (wpAny_update' hx₁ ?_)
  refine wpAny_pure ?_
  have hgd:((h.push { cls:=.type "dict",data:=.dict #[] }).update x λ o=>{ cls:=o.cls,dict:=some h.objs.size,data:=o.data,slots:=o.slots }).get? h.objs.size
    = some { cls:=.type "dict",data:=.dict #[] }:=
   (Heap.get?_update_ne _ _ _ _ hxs.symm).trans (Heap.get?_push_at rfl rfl)
  have hnd:((h.push { cls:=.type "dict",data:=.dict #[] }).update x λ o=>{ cls:=o.cls,dict:=some h.objs.size,data:=o.data,slots:=o.slots }).Ns h.objs.size (λ _=>none):=
   ⟨_,#[],_,hgd,rfl,λ e he=>absurd he (by simp),λ _=>rfl⟩
  show wpAny _ _ (storeInDict h.objs.size (.str name tk) name v) _ _ _
  unfold storeInDict newKeyGuard
  refine wpAny_bind (wpAny_pure (wpAny_bind (wpAny_nsSet1 (Heap.Ns1.of_empty hnd) λ h' hn' hs=>?_)))
  obtain⟨oD,esD,epD,hoD,hdD,hcD⟩:=hn'.count (Within.cons name v Within.nil)
  refine wpAny_bind (wpAny_lookBehind hoD (by rw[hdD];exact pastItsLine_dict (Nat.le_trans hcD (by rw[List.length_cons,List.length_nil,sizeLine_eq];omega))) ?_)
  wp_walk
  refine hq h' _ ?_ hn' λ b ob hbx hb=>?_
  ·refine (hs.2 x hxs).trans (Heap.get?_update_self _ hx₁ ?_)
   have hfr:=(Heap.get?_some_iff.mp hx).2
   obtain⟨oc,od,odt,osl⟩:=o
   cases odt <;> first | rfl | exact hfr
  ·exact (hs.2 b (Nat.ne_of_lt (Heap.lt_size hb))).trans ((Heap.get?_update_ne _ _ _ _ hbx).trans (Heap.get?_push_of_some _ hb))
theorem xc_setattr {Q:Unit->Shared->Prop}{sa owner:String}{o:Obj}(SF:StoreFacts B bmB sa owner)
  (hC:h.get? C=some (excClassObj nm q C N bs (.ref P::bmB) true sn sub ab col dd k0 k1 k2 k3 k5 newId)) (hn:h.Ns N mN) (hP:XPar h P mP) (hns:mN "__setattr__"=none) (hps:mP "__setattr__"=none) (hna:mN name=none) (hpa:mP name=none)
  (hB:typeLookup (.type B) name=pure none) (hx:h.get? x=some o) (hc:o.cls=.ref C) (hdn:o.dict=none) (hnc:∀ c,o.data≠.cls c)
  (hq:∀ h' tk',h'.get? x=some { o with dict:=some h.objs.size }->h'.Ns1 h.objs.size (λ y=>if y=name then some v else none)->
   (∀ b o,b≠x->h.get? b=some o->h'.get? b=some o)->Q () ⟨h',g,d,tk',os⟩):
  wpAny (model prog w) A (setAttr (.ref x) name v) Q E ⟨h,g,d,t,os⟩:=by
 have f3:=SF.slot.bind (.ref x)
 unfold setAttr callSpecial? specialOf
 repeat (any_goals (first | assumption | (with_reducible refine wpAny_loadPart_at hx ?_;rw[hc]) | (with_reducible refine xc_lookup hC hn hP SF.mro SF.slot.lookup hns hps ?_) | wp_step))
 refine codeAny_call_builtin SF.slot.plain SF.entry (xc_check_sa SF hC hx hc (xc_store_entry SF hC hn hP hna hpa hB hx hc hdn hnc λ h' tk' h1 h2 h3=>?_))
 repeat (any_goals (first | assumption | wp_step))
 exact hq h' tk' h1 h2 h3
end
end PySem
namespace PySem
open Builtin Builtin.ObjectAttr
section
variable {prog:Program}{w:World}{M:Model}{A:Around}{E:Value->Shared->Prop}{h:Heap}{g:Array GenState}{d:Drawn}{t:Nat}{os:OsState}
variable {nm q:Str}{C N P x dx:Addr}{bs bmB:List Value}{sn:List Str}{sub:List Value}{ab:Bool}{col:Option Bool}{dd:Option Addr}{k0 k1 k2 k3 k5:Option Value}{B newId:String}
 {mN mP mA:Str->Option Value}{name:Str}{v:Value}{o:Obj}
theorem xc_check_ga {nameV:Value}{Q:Unit->Shared->Prop}(hb:bmB.contains (.type "BaseException")=true) (hC:h.get? C=some (excClassObj nm q C N bs (.ref P::bmB) true sn sub ab col dd k0 k1 k2 k3 k5 newId))
  (hx:h.get? x=some o) (hc:o.cls=.ref C) (hq:Q () ⟨h,g,d,t,os⟩):wpAny M A (checkBuiltinCall "BaseException.__getattribute__" ⟨[.ref x,nameV],[]⟩) Q E ⟨h,g,d,t,os⟩:=by
 have hk:builtinKind "BaseException.__getattribute__"=some .slot:=by decide +kernel
 have hsplit:splitId "BaseException.__getattribute__"=some ("BaseException","__getattribute__"):=by decide +kernel
 have hcB:(Value.ref C::.ref P::bmB).contains (.type "BaseException")=true:=by rw[List.contains_cons,List.contains_cons,hb];rfl
 have ha:=F.args_bexc_ga (.ref x) nameV
 simp only[checkBuiltinCall,hk,hsplit]
 refine wpAny_bind ?_
 unfold isInstance
 repeat (first | (with_reducible refine wpAny_loadPart_at hx ?_;rw[hc]) | (with_reducible refine wpAny_isSubtype_exc hC ?_;rw[hcB]) | wp_step)
 exact hq
theorem xc_load_entry {tk:Tok}{Q:Fin->Shared->Prop}
  (hC:h.get? C=some (excClassObj nm q C N bs (.ref P::bmB) true sn sub ab col dd k0 k1 k2 k3 k5 newId)) (hn:h.Ns N mN) (hP:XPar h P mP) (hm:mroOf (.type B)=pure bmB) (hna:mN name=none) (hpa:mP name=none)
  (hB:typeLookup (.type B) name=pure none) (hx:h.get? x=some o) (hc:o.cls=.ref C) (hnc:∀ c,o.data≠.cls c) (hdx:o.dict=some dx) (hns:h.Ns1 dx mA) (hv:mA name=some v) (hq:Q (.done (.ret v)) ⟨h,g,d,t,os⟩):
  wpAny (model prog w) A (Builtin.«object.__getattribute__» ⟨[.ref x,.str name tk],[]⟩) Q E ⟨h,g,d,t,os⟩:=by
 unfold Builtin.«object.__getattribute__»
 repeat (first | (with_reducible refine wpAny_loadPart_at hx ?_;rw[hc]) | (with_reducible refine xc_lookup hC hn hP hm hB hna hpa ?_) | wp_step)
 split
 ·rename_i c hcd
  exact absurd hcd (hnc c)
 unfold instanceDict
 repeat (first | (with_reducible refine wpAny_loadPart_at hx ?_;rw[hc]) | with_reducible refine wpAny_loadPart_at hC ?_ | wp_step)
 rw[hdx]
 repeat (first | (with_reducible refine wpAny_nsGet hns.ns ?_;rw[hv]) | wp_step)
 exact hq
theorem xc_getattr {expr:Bool}{Q:Value->Shared->Prop}(FB:ExcAttrBase B bmB)
  (hC:h.get? C=some (excClassObj nm q C N bs (.ref P::bmB) true sn sub ab col dd k0 k1 k2 k3 k5 newId)) (hn:h.Ns N mN) (hP:XPar h P mP) (hq1:mN "__getattribute__"=none) (hq2:mP "__getattribute__"=none) (hq3:mN "__getattr__"=none) (hq4:mP "__getattr__"=none) (hna:mN name=none) (hpa:mP name=none)
  (hB:typeLookup (.type B) name=pure none) (hx:h.get? x=some o) (hc:o.cls=.ref C) (hnc:∀ c,o.data≠.cls c) (hdx:o.dict=some dx) (hns:h.Ns1 dx mA) (hv:mA name=some v) (hh:handedOut v=pure v) (hq:Q v ⟨h,g,d,t+1,os⟩):
  wpAny (model prog w) A (getAttr (.ref x) name expr) Q E ⟨h,g,d,t,os⟩:=by
 have f3:=FB.ga.bind (.ref x)
 have hx0:(expr&&onTheHeap (Value.builtin "BaseException.__getattribute__"))=false:=by cases expr <;> rfl
 have hx2:(Value.builtin "BaseException.__getattribute__" == Value.builtin "object.__getattribute__")=false:=by decide +kernel
 have hx1:(onTheHeap (Value.ref C)&&Value.builtin "BaseException.__getattribute__" == Value.builtin "object.__getattribute__")=false:=by rw[hx2];rfl
 unfold getAttr getAttrBy
 repeat (any_goals (first | assumption | (with_reducible refine wpAny_loadPart_at hx ?_;rw[hc]) | with_reducible refine xc_lookup hC hn hP FB.mro FB.ga.lookup hq1 hq2 ?_ | with_reducible refine xc_lookup hC hn hP FB.mro FB.noGetattr hq3 hq4 ?_ | wp_step))
 refine codeAny_call_builtin FB.ga.plain F.entry_bexc_ga (xc_check_ga FB.hasBase hC hx hc (xc_load_entry hC hn hP FB.mro hna hpa hB hx hc hnc hdx hns hv ?_))
 repeat (any_goals (first | assumption | (rw[hh];exact wpAny_pure hq) | wp_step))
end
end PySem
namespace PySem
section
variable {prog:Program}{w:World}{M:Model}{A:Around}{E:Value->Shared->Prop}{h:Heap}{g:Array GenState}{d:Drawn}{t:Nat}{os:OsState}
variable {nm q:Str}{C N P x:Addr}{bs bmB:List Value}{sn:List Str}{sub:List Value}{ab:Bool}{col:Option Bool}{dd:Option Addr}{k0 k1 k2 k3 k5:Option Value}{B newId:String}
 {mN mP:Str->Option Value}{o:Obj}
theorem xc_class_get {R:Result->Shared->Prop}(hb:bmB.contains (.type "object")=true) (hC:h.get? C=some (excClassObj nm q C N bs (.ref P::bmB) true sn sub ab col dd k0 k1 k2 k3 k5 newId))
  (hx:h.get? x=some o) (hc:o.cls=.ref C) (hq:R (.ok (.ret (.ref C))) ⟨h,g,d,t,os⟩):
  codeAny (model prog w) A (.call (.builtin "getset_descriptor.__get__") ⟨[.builtin "object.__class__",.ref x,.ref C],[]⟩) R ⟨h,g,d,t,os⟩:=by
 have hT5:(⟨h,g,d,t,os⟩:Shared).TypeIs (.builtin "object.__class__") "getset_descriptor":=F.typeOf_object_class
 have hcB:(Value.ref C::.ref P::bmB).contains (.type (".".intercalate ("object.__class__".cutAt '.').dropLast))=true:=by rw[F.owner_object_class,List.contains_cons,List.contains_cons,hb];rfl
 refine codeAny_call_builtin F.slot_gs_get.plain F.entry_gs_get (F.slot_gs_get.check _ _ _ _ _ _ _ _ hT5 (F.args_gs_get _ _ _) ?_)
 repeat (any_goals (first | assumption | (with_reducible refine wpAny_loadPart_at hx ?_;rw[hc]) | (with_reducible refine wpAny_isSubtype_exc hC ?_;rw[hcB]) | wp_step))
 refine⟨Code.quiet_builtin _ (by decide +kernel),codeAny_builtin F.entry_object_class ?_⟩
 repeat (any_goals (first | assumption | (with_reducible refine wpAny_loadPart_at hx ?_;rw[hc]) | wp_step))
theorem xc_class_entry {tk:Tok}{Q:Fin->Shared->Prop}(hb:bmB.contains (.type "object")=true) (hC:h.get? C=some (excClassObj nm q C N bs (.ref P::bmB) true sn sub ab col dd k0 k1 k2 k3 k5 newId)) (hn:h.Ns N mN) (hP:XPar h P mP) (hm:mroOf (.type B)=pure bmB)
  (hB:typeLookup (.type B) "__class__"=pure (some (.builtin "object.__class__"))) (hna:mN "__class__"=none) (hpa:mP "__class__"=none)
  (hx:h.get? x=some o) (hc:o.cls=.ref C) (hq:Q (.done (.ret (.ref C))) ⟨h,g,d,t,os⟩):
  wpAny (model prog w) A (Builtin.«object.__getattribute__» ⟨[.ref x,.str "__class__" tk],[]⟩) Q E ⟨h,g,d,t,os⟩:=by
 have hT5:(⟨h,g,d,t,os⟩:Shared).TypeIs (.builtin "object.__class__") "getset_descriptor":=F.typeOf_object_class
 have f5:=F.typeOf_object_class
 have f6:=F.slot_gs_get.lookup
 have f7:=F.slot_gs_set.lookup
 repeat (any_goals (first | assumption | (with_reducible refine wpAny_loadPart_at hx ?_;rw[hc]) | (with_reducible refine xc_lookup hC hn hP hm hB hna hpa ?_) | wp_step))
 refine xc_class_get hb hC hx hc ?_
 repeat (any_goals (first | assumption | wp_step))
theorem xc_class_by {tk:Tok}{Q:Value->Shared->Prop}(FB:ExcAttrBase B bmB) (hb:bmB.contains (.type "object")=true) (hC:h.get? C=some (excClassObj nm q C N bs (.ref P::bmB) true sn sub ab col dd k0 k1 k2 k3 k5 newId)) (hn:h.Ns N mN) (hP:XPar h P mP)
  (hB:typeLookup (.type B) "__class__"=pure (some (.builtin "object.__class__"))) (hq1:mN "__getattribute__"=none) (hq2:mP "__getattribute__"=none) (hq3:mN "__getattr__"=none) (hq4:mP "__getattr__"=none) (hna:mN "__class__"=none) (hpa:mP "__class__"=none)
  (hx:h.get? x=some o) (hc:o.cls=.ref C) (hq:Q (.ref C) ⟨h,g,d,t,os⟩):wpAny (model prog w) A (getAttrBy (.ref x) (.str "__class__" tk) false) Q E ⟨h,g,d,t,os⟩:=by
 have f3:=FB.ga.bind (.ref x)
 have hx2:(Value.builtin "BaseException.__getattribute__" == Value.builtin "object.__getattribute__")=false:=by decide +kernel
 have hx1:(onTheHeap (Value.ref C)&&Value.builtin "BaseException.__getattribute__" == Value.builtin "object.__getattribute__")=false:=by rw[hx2];rfl
 repeat (any_goals (first | assumption | (with_reducible refine wpAny_loadPart_at hx ?_;rw[hc]) | with_reducible refine xc_lookup hC hn hP FB.mro FB.ga.lookup hq1 hq2 ?_ | with_reducible refine xc_lookup hC hn hP FB.mro FB.noGetattr hq3 hq4 ?_ | wp_step))
 refine codeAny_call_builtin FB.ga.plain F.entry_bexc_ga (xc_check_ga FB.hasBase hC hx hc (xc_class_entry hb hC hn hP FB.mro hB hna hpa hx hc ?_))
 repeat (any_goals (first | assumption | wp_step))
theorem xc_class_attr {Q:Option Value->Shared->Prop}(FB:ExcAttrBase B bmB) (hb:bmB.contains (.type "object")=true) (hC:h.get? C=some (excClassObj nm q C N bs (.ref P::bmB) true sn sub ab col dd k0 k1 k2 k3 k5 newId)) (hn:h.Ns N mN) (hP:XPar h P mP)
  (hB:typeLookup (.type B) "__class__"=pure (some (.builtin "object.__class__"))) (hq1:mN "__getattribute__"=none) (hq2:mP "__getattribute__"=none) (hq3:mN "__getattr__"=none) (hq4:mP "__getattr__"=none) (hna:mN "__class__"=none) (hpa:mP "__class__"=none)
  (hx:h.get? x=some o) (hc:o.cls=.ref C) (hq:Q (some (.ref C)) ⟨h,g,d,t+1,os⟩):wpAny (model prog w) A (getAttr? (.ref x) "__class__") Q E ⟨h,g,d,t,os⟩:=by
 unfold getAttr? getAttrBy?
 repeat (any_goals (first | assumption | with_reducible apply xc_class_by FB hb hC hn hP hB hq1 hq2 hq3 hq4 hna hpa hx hc | wp_step))
end
end PySem
namespace PySem
section
variable {prog:Program}{w:World}{M:Model}{A:Around}{E:Value->Shared->Prop}{h:Heap}{g:Array GenState}{d:Drawn}{t:Nat}{os:OsState}
variable {nm q:Str}{C N P x D:Addr}{bs bmB:List Value}{sn:List Str}{sub:List Value}{ab:Bool}{col:Option Bool}{dd:Option Addr}{k0 k1 k2 k3 k5:Option Value}{B newId:String}
 {mN mP:Str->Option Value}{o:Obj}
structure XCls (h:Heap) (C P:Addr) (B:String) (bmB:List Value):Prop where
 FB:ExcAttrBase B bmB
 hb:bmB.contains (.type "object")=true
 hB:typeLookup (.type B) "__class__"=pure (some (.builtin "object.__class__"))
 ex:∃ (nm q:Str) (N:Addr) (bs:List Value) (sn:List Str) (sub:List Value) (ab:Bool) (col:Option Bool) (dd:Option Addr) (k0 k1 k2 k3 k5:Option Value) (newId:String) (mN mP:Str->Option Value),
  h.get? C=some (excClassObj nm q C N bs (.ref P::bmB) true sn sub ab col dd k0 k1 k2 k3 k5 newId)/\h.Ns N mN/\XPar h P mP/\
  ∀ n∈(["__getattribute__","__getattr__","__class__"]:List Str),mN n=none/\mP n=none
theorem xc_isi_ref {tk:Tok}{dep:Int}{Q:Fin->Shared->Prop}{oD:Obj}{cD:ClassData}(X:XCls h C P B bmB) (hx:h.get? x=some o) (hc:o.cls=.ref C) (hD:h.get? D=some oD) (hDc:oD.cls=.type "type") (hDd:oD.data=.cls cD)
  (hq:∀ t',Q (.done (.ret (.bool ((Value.ref C::.ref P::bmB).contains (.ref D))))) ⟨h,g,d,t',os⟩):
  wpAny (model prog w) A (Builtin.«isinstance.nested» ⟨[.ref x,.ref D,.int dep tk],[]⟩) Q E ⟨h,g,d,t,os⟩:=by
 obtain⟨FB,hb,hB,nm,q,N,bs,sn,sub,ab,col,dd,k0,k1,k2,k3,k5,newId,mN,mP,hC,hn,hP,hm⟩:=X
 have m1:=hm "__getattribute__" (.head _)
 have m2:=hm "__getattr__" (.tail _ (.head _))
 have m3:=hm "__class__" (.tail _ (.tail _ (.head _)))
 by_cases he:C=D
 ·subst he
  have hcc:(Value.ref C::.ref P::bmB).contains (.ref C)=true:=by simp
  rw[hcc] at hq
  have hee:(Value.ref C == Value.ref C)=true:=by simp
  repeat (any_goals (first | assumption | (with_reducible refine wpAny_loadPart_at hx ?_;rw[hc]) | wp_step))
  exact hq _
 ·have hee:(Value.ref C == Value.ref D)=false:=by simpa using he
  cases hcc:(Value.ref C::.ref P::bmB).contains (.ref D) with
  | true=>
   rw[hcc] at hq
   repeat (any_goals (first | assumption | (with_reducible refine wpAny_loadPart_at hx ?_;rw[hc]) | (with_reducible refine wpAny_loadPart_at hD ?_;rw[hDc]) | (with_reducible refine wpAny_loadPart_at hD ?_;rw[hDd]) | (with_reducible refine wpAny_isSubtype_exc hC ?_;rw[hcc]) | wp_step))
   exact hq _
  | false=>
   rw[hcc] at hq
   repeat (any_goals (first | assumption | (with_reducible refine wpAny_loadPart_at hx ?_;rw[hc]) | (with_reducible refine wpAny_loadPart_at hD ?_;rw[hDc]) | (with_reducible refine wpAny_loadPart_at hD ?_;rw[hDd]) | (with_reducible refine wpAny_isSubtype_exc hC ?_;rw[hcc]) | with_reducible apply xc_class_attr FB hb hC hn hP hB m1.1 m1.2 m2.1 m2.2 m3.1 m3.2 hx hc | with_reducible refine wpAny_loadPart_at hC ?_ | wp_step))
   exact hq _
theorem xc_isi_type {tk:Tok}{dep:Int}{Q:Fin->Shared->Prop}{T:String}(X:XCls h C P B bmB) (hx:h.get? x=some o) (hc:o.cls=.ref C) (hty:typeOf (.type T)=pure (.type "type"))
  (hq:∀ t',Q (.done (.ret (.bool (bmB.contains (.type T))))) ⟨h,g,d,t',os⟩):
  wpAny (model prog w) A (Builtin.«isinstance.nested» ⟨[.ref x,.type T,.int dep tk],[]⟩) Q E ⟨h,g,d,t,os⟩:=by
 obtain⟨FB,hb,hB,nm,q,N,bs,sn,sub,ab,col,dd,k0,k1,k2,k3,k5,newId,mN,mP,hC,hn,hP,hm⟩:=X
 have m1:=hm "__getattribute__" (.head _)
 have m2:=hm "__getattr__" (.tail _ (.head _))
 have m3:=hm "__class__" (.tail _ (.tail _ (.head _)))
 have hee:(Value.ref C == Value.type T)=false:=rfl
 have hcc:(Value.ref C::.ref P::bmB).contains (.type T)=bmB.contains (.type T):=by rw[List.contains_cons,List.contains_cons];rfl
 cases hct:bmB.contains (.type T) with
 | true=>
  rw[hct] at hq hcc
  repeat (any_goals (first | assumption | (with_reducible refine wpAny_loadPart_at hx ?_;rw[hc]) | (with_reducible refine wpAny_isSubtype_exc hC ?_;rw[hcc]) | wp_step))
  exact hq _
 | false=>
  rw[hct] at hq hcc
  repeat (any_goals (first | assumption | (with_reducible refine wpAny_loadPart_at hx ?_;rw[hc]) | (with_reducible refine wpAny_isSubtype_exc hC ?_;rw[hcc]) | with_reducible apply xc_class_attr FB hb hC hn hP hB m1.1 m1.2 m2.1 m2.2 m3.1 m3.2 hx hc | with_reducible refine wpAny_loadPart_at hC ?_ | wp_step))
  exact hq _
theorem xc_isinstance {c:Value}{b:Bool}{s:Shared}{Q:Value->Shared->Prop}(hn:∀ (prog:Program) (w:World) (A:Around) (Q:Fin->Shared->Prop) (E:Value->Shared->Prop),(∀ t',Q (.done (.ret (.bool b))) { s with toks:=t' })->wpAny (model prog w) A (Builtin.«isinstance.nested» ⟨[.ref x,c,rawInt 0],[]⟩) Q E s)
  (hq:∀ t',Q (.bool b) { s with toks:=t' }):wpAny (model prog w) A (call (.builtin "isinstance") [.ref x,c]) Q E s:=
 call_isinstance (S:=λ _ R s'=>s'=s/\∀ t',R (.ok (.ret (.bool b))) { s with toks:=t' }) (λ prog w A R s' hs=>by
  obtain⟨rfl,hs⟩:=hs
  refine isinstance_outer (hn prog w _ _ _ λ t'=>?_) (λ e=>by cases e)
  exact hs t') ⟨rfl,λ t'=>hq t'⟩
end
end PySem
namespace PySem
namespace Heap
def Trd (h base:Heap) (e:Addr) (cls a0 fl:Value) (dct:Option Addr) (T:Addr):Prop:=
 ∃ oe vs oT ts,h.get? e=some oe/\((oe.cls=cls/\oe.dict=dct)/\vs[0]?=some a0)/\oe.data=.fields vs/\vs[1]?=some (.ref T)/\base.get? T=none/\T≠e/\h.get? T=some oT/\oT.data=.fields ts/\ts[3]?=some fl
structure Lfd (base:Heap) (l:List Env) (e:Addr) (cls a0:Value) (dct:Option Addr) (h h':Heap):Prop where
 stays:base.StaysIn h'
 frames:h'.FunFrames base l
 tr:∃ T,h.objs.size<=T/\h'.Trd base e cls a0 .none dct T
 slots:h.UpToSlots h'
 recs:∀ b o vs,h.get? b=some o->o.data=.fields vs->∃ o' vs',h'.get? b=some o'/\o'.data=.fields vs'
end Heap
theorem Obj.dict_mapFields (f:Array Value->Array Value) (o:Obj):(Obj.mapFields f o).dict=o.dict:=by
 obtain⟨c,dc,dt,sl⟩:=o
 cases dt <;> rfl
section
variable {M:Model}{A:Around}{E:Value->Shared->Prop}{s:Shared}
theorem xf_entry {base:Heap}{env:Env}{outer:List Env}{L e:Addr}{oe:Obj}{vs:Array Value}{head a0:Value}{hadNext:Bool}{Q:Unit->Shared->Prop}
  (hfr:A.frames=some (env::outer)) (hl:s.heap.FunFrames base (env::outer)) (hf:env.frame=some L)
  (he:s.heap.get? e=some oe) (hkb:base.StaysIn s.heap) (hen:base.get? e=none) (hd:oe.data=.fields vs) (hsz:1<vs.size) (h0:vs[0]?=some a0)
  (h:∀ h',Heap.Lfd base (env::outer) e oe.cls a0 oe.dict s.heap h'->Q () { s with heap:=h' }):
  wpAny M A (do let a <- frameOf env;let pl <- entryPlaceOf L hadNext;let b <- EntryCells.newEntry head a .none (rawInt L) .none pl;setField (.ref e) 1 b) (λ _ s'=>wpAny M A (setFlight (.ref e) none) Q E s') E s:=by
 have hene:e∉(env::outer).filterMap (·.frame):=λ hm=>by
  obtain⟨_,o,ho,hnf⟩:=hl.mem hm
  rw[he] at ho;cases ho;exact hnf vs hd
 refine wpAny_bind (wpAny_frameOf_fun hfr hl hf λ h₁ hs₁=>wpAny_bind (wpAny_entryPlaceOf λ pl hpl=>?_))
 unfold EntryCells.newEntry newFields
 refine wpAny_bind (wpAny_newObj_type ?_ (hpl.sizeOk5 _ _ _ _ _))
 have he₁:h₁.get? e=some oe:=(hs₁.2.1 e hene).trans he
 have kb₁:base.StaysIn h₁:=λ b o hbo=>(hs₁.2.1 b λ hm=>by rw[(hl.mem hm).1] at hbo;cases hbo).trans (hkb b o hbo)
 generalize htb:({ cls:=.type "traceback",dict:=none,data:=.fields ([head,.ref L,.none,rawInt L,.none]++(if pl.isEmpty then List.replicate 6 Value.none else pl)).toArray }:Obj)=tb
 have tbd:tb.data=.fields ([head,.ref L,.none,rawInt L,.none]++(if pl.isEmpty then List.replicate 6 Value.none else pl)).toArray:=by rw[<- htb]
 have tbf:tb.isFreed=false:=by rw[<- htb];rfl
 have he₂:(h₁.push tb).get? e=some oe:=Heap.get?_push_of_some _ he₁
 refine wpAny_setField he₂ hd hsz ?_
 have hTe:h₁.objs.size≠e:=Nat.ne_of_gt (Heap.lt_size he₁)
 have hd₃:=Obj.data_mapFields hd (·.setIfInBounds 1 (Value.ref h₁.objs.size))
 have he₃:=Heap.get?_update_self (Obj.mapFields (·.setIfInBounds 1 (Value.ref h₁.objs.size))) he₂ (Obj.isFreed_of_fields hd₃)
 have hT₃:=(Heap.get?_update_other (h₁.push tb) (Obj.mapFields (·.setIfInBounds 1 (Value.ref h₁.objs.size))) (Ne.symm hTe)).trans (Heap.get?_push_size h₁ tbf)
 unfold setFlight
 refine wpAny_bind (wpAny_field he₃ hd₃ (x:=.ref h₁.objs.size) (by simp[hsz]) ?_)
 rw[if_pos (show (Value.ref h₁.objs.size != Value.none)=true from by simp)]
 refine wpAny_setField hT₃ tbd (by simp only[List.size_toArray,List.length_append,List.length_cons,List.length_nil] <;> omega) (h _ ?_)
 have keep:∀ b o,b≠e->h₁.get? b=some o->(((h₁.push tb).update e (Obj.mapFields (·.setIfInBounds 1 (Value.ref h₁.objs.size)))).update h₁.objs.size (Obj.mapFields (·.setIfInBounds 3 ((none:Option Addr).elim Value.none λ f=>rawInt f)))).get? b=some o:=λ b o hbe hb=>by
  rw[Heap.get?_update_other _ _ (Nat.ne_of_gt (Heap.lt_size hb)),Heap.get?_update_other _ _ (Ne.symm hbe)]
  exact Heap.get?_push_of_some _ hb
 have noRecord:∀ b o,s.heap.get? b=some o->(∀ vs,o.data≠.fields vs)->b≠e:=λ b o hb hnf q=>by
  rw[q,he] at hb;cases hb;exact hnf vs hd
 refine⟨λ b o hbo=>keep b o (λ q=>by rw[q,hen] at hbo;cases hbo) (kb₁ b o hbo),hl.of_keeps λ b o hb hnf=>?_,?_,λ b o hb hnf=>?_,λ b o us hb hbd=>?_⟩
 ·obtain⟨sl,hs⟩:=hs₁.2.2 b o hb
  exact⟨_,keep b _ (noRecord b o hb hnf) hs,rfl⟩
 ·refine⟨h₁.objs.size,by rw[hs₁.1];exact Nat.le_refl _,_,_,_,_,?_,⟨⟨Obj.cls_mapFields _ _,Obj.dict_mapFields _ _⟩,by rw[Array.getElem?_setIfInBounds_ne (by decide)];exact h0⟩,hd₃,by simp[hsz],kb₁.fresh,hTe,Heap.get?_update_self _ hT₃ (Obj.isFreed_of_fields (Obj.data_mapFields tbd _)),Obj.data_mapFields tbd _,by first | (simp;done) | (rcases hpl with rfl | ⟨_,_,_,_,_,_,_,rfl⟩ <;> simp)⟩
  rw[Heap.get?_update_other _ _ hTe];exact he₃
 ·obtain⟨sl,hs⟩:=hs₁.2.2 b o hb
  exact⟨sl,keep b _ (noRecord b o hb hnf) hs⟩
 ·by_cases q:b=e
  ·subst q
   exact⟨_,_,(by rw[Heap.get?_update_other _ _ hTe];exact he₃),hd₃⟩
  ·have hb₁:h₁.get? b=some o:=(hs₁.2.1 b λ hm=>by
    obtain⟨_,o',ho',hnf⟩:=hl.mem hm
    rw[hb] at ho';cases ho';exact hnf us hbd).trans hb
   exact⟨o,us,keep b o q hb₁,hbd⟩
theorem xf_first {base:Heap}{env:Env}{outer:List Env}{L e:Addr}{oe:Obj}{vs:Array Value}{a0:Value}{Q:Unit->Shared->Prop}
  (hfr:A.frames=some (env::outer)) (hl:s.heap.FunFrames base (env::outer)) (hf:env.frame=some L)
  (he:s.heap.get? e=some oe) (hkb:base.StaysIn s.heap) (hen:base.get? e=none) (hd:oe.data=.fields vs) (h1:vs[1]?=some .none) (h0:vs[0]?=some a0)
  (h:∀ h',Heap.Lfd base (env::outer) e oe.cls a0 oe.dict s.heap h'->Q () { s with heap:=h' }):wpAny M A (leaving env (.ref e)) Q E s:=by
 unfold leaving noteFrame
 simp only[hf]
 refine wpAny_bind (wpAny_bind (wpAny_field he hd h1 ?_))
 rw[if_neg (by decide)]
 exact xf_entry hfr hl hf he hkb hen hd (Array.getElem?_eq_some_iff.mp h1).1 h0 h
theorem xf_next {base:Heap}{env:Env}{outer:List Env}{L e:Addr}{cls a0:Value}{dct:Option Addr}{T:Addr}{Q:Unit->Shared->Prop}
  (hfr:A.frames=some (env::outer)) (hl:s.heap.FunFrames base (env::outer)) (hf:env.frame=some L) (ht:s.heap.Trd base e cls a0 .none dct T) (hkb:base.StaysIn s.heap) (hen:base.get? e=none)
  (h:∀ h',Heap.Lfd base (env::outer) e cls a0 dct s.heap h'->Q () { s with heap:=h' }):wpAny M A (leaving env (.ref e)) Q E s:=by
 obtain⟨oe,vs,oT,ts,he,⟨⟨rfl,rfl⟩,h0⟩,hd,h1,hnT,hTe,hT,hdT,h3⟩:=ht
 unfold leaving noteFrame
 simp only[hf]
 refine wpAny_bind (wpAny_bind (wpAny_field he hd h1 ?_))
 rw[if_pos (show (Value.ref T != Value.none)=true from by simp)]
 refine wpAny_bind (wpAny_field hT hdT h3 ?_)
 rw[if_neg (show ¬ ((Value.none == rawInt L)=true) from by simp[rawInt])]
 refine wpAny_bind (wpAny_setField hT hdT (Array.getElem?_eq_some_iff.mp h3).1 ?_)
 have other:∀ b,b≠T->(s.heap.update T (Obj.mapFields (·.setIfInBounds 3 Value.none))).get? b=s.heap.get? b:=λ b hb=>Heap.get?_update_other _ _ (Ne.symm hb)
 have noRecord:∀ b o,s.heap.get? b=some o->(∀ vs,o.data≠.fields vs)->b≠T:=λ b o hb hnf q=>by
  rw[q,hT] at hb;cases hb;exact hnf ts hdT
 refine xf_entry hfr (hl.of_keeps λ b o hb hnf=>⟨o,(other b (noRecord b o hb hnf)).trans hb,rfl⟩) hf ((other e (Ne.symm hTe)).trans he)
  (λ b o hbo=>(other b λ q=>by rw[q,hnT] at hbo;cases hbo).trans (hkb b o hbo)) hen hd (Array.getElem?_eq_some_iff.mp h1).1 h0
  λ h' x=>h h' ⟨x.stays,x.frames,(by
   obtain⟨T',n,r⟩:=x.tr
   exact⟨T',by rw[Heap.size_after_update] at n;exact n,r⟩),λ b o hb hnf=>x.slots b o ((other b (noRecord b o hb hnf)).trans hb) hnf,λ b o us hb hbd=>(by
   by_cases q:b=T
   ·subst q
    exact x.recs _ _ _ (Heap.get?_update_self _ hT (Obj.isFreed_of_fields (Obj.data_mapFields hdT _))) (Obj.data_mapFields hdT _)
   ·exact x.recs b o us ((other b q).trans hb) hbd)⟩
end
end PySem
namespace PySem
structure Heap.Ntd (base:Heap) (l:List Env) (e:Addr) (cls a0 fl:Value) (dct:Option Addr) (h h':Heap):Prop where
 stays:base.StaysIn h'
 frames:h'.FunFrames base l
 tr:∃ T,h.objs.size<=T/\h'.Trd base e cls a0 fl dct T
 slots:h.UpToSlots h'
 recs:∀ b o vs,h.get? b=some o->o.data=.fields vs->∃ o' vs',h'.get? b=some o'/\o'.data=.fields vs'
section
variable {M:Model}{A:Around}{E:Value->Shared->Prop}{s:Shared}
theorem xf_entryN {base:Heap}{env:Env}{outer:List Env}{L e:Addr}{oe:Obj}{vs:Array Value}{head a0:Value}{hadNext:Bool}{Q:Unit->Shared->Prop}
  (hfr:A.frames=some (env::outer)) (hl:s.heap.FunFrames base (env::outer)) (hf:env.frame=some L)
  (he:s.heap.get? e=some oe) (hkb:base.StaysIn s.heap) (hen:base.get? e=none) (hd:oe.data=.fields vs) (hsz:1<vs.size) (h0:vs[0]?=some a0)
  (h:∀ h',Heap.Ntd base (env::outer) e oe.cls a0 (rawInt L) oe.dict s.heap h'->Q () { s with heap:=h' }):
  wpAny M A (do let a <- frameOf env;let pl <- entryPlaceOf L hadNext;let b <- EntryCells.newEntry head a .none (rawInt L) .none pl;setField (.ref e) 1 b) Q E s:=by
 have hene:e∉(env::outer).filterMap (·.frame):=λ hm=>by
  obtain⟨_,o,ho,hnf⟩:=hl.mem hm
  rw[he] at ho;cases ho;exact hnf vs hd
 refine wpAny_bind (wpAny_frameOf_fun hfr hl hf λ h₁ hs₁=>wpAny_bind (wpAny_entryPlaceOf λ pl hpl=>?_))
 unfold EntryCells.newEntry newFields
 refine wpAny_bind (wpAny_newObj_type ?_ (hpl.sizeOk5 _ _ _ _ _))
 have he₁:h₁.get? e=some oe:=(hs₁.2.1 e hene).trans he
 have kb₁:base.StaysIn h₁:=λ b o hbo=>(hs₁.2.1 b λ hm=>by rw[(hl.mem hm).1] at hbo;cases hbo).trans (hkb b o hbo)
 generalize htb:({ cls:=.type "traceback",dict:=none,data:=.fields ([head,.ref L,.none,rawInt L,.none]++(if pl.isEmpty then List.replicate 6 Value.none else pl)).toArray }:Obj)=tb
 have tbd:tb.data=.fields ([head,.ref L,.none,rawInt L,.none]++(if pl.isEmpty then List.replicate 6 Value.none else pl)).toArray:=by rw[<- htb]
 have tbf:tb.isFreed=false:=by rw[<- htb];rfl
 have he₂:(h₁.push tb).get? e=some oe:=Heap.get?_push_of_some _ he₁
 refine wpAny_setField he₂ hd hsz (h _ ?_)
 have hTe:h₁.objs.size≠e:=Nat.ne_of_gt (Heap.lt_size he₁)
 have hd₃:=Obj.data_mapFields hd (·.setIfInBounds 1 (Value.ref h₁.objs.size))
 have he₃:=Heap.get?_update_self (Obj.mapFields (·.setIfInBounds 1 (Value.ref h₁.objs.size))) he₂ (Obj.isFreed_of_fields hd₃)
 have hT₃:=(Heap.get?_update_other (h₁.push tb) (Obj.mapFields (·.setIfInBounds 1 (Value.ref h₁.objs.size))) (Ne.symm hTe)).trans (Heap.get?_push_size h₁ tbf)
 have keep:∀ b o,b≠e->h₁.get? b=some o->((h₁.push tb).update e (Obj.mapFields (·.setIfInBounds 1 (Value.ref h₁.objs.size)))).get? b=some o:=λ b o hbe hb=>by
  rw[Heap.get?_update_other _ _ (Ne.symm hbe)]
  exact Heap.get?_push_of_some _ hb
 have noRecord:∀ b o,s.heap.get? b=some o->(∀ vs,o.data≠.fields vs)->b≠e:=λ b o hb hnf q=>by
  rw[q,he] at hb;cases hb;exact hnf vs hd
 refine⟨λ b o hbo=>keep b o (λ q=>by rw[q,hen] at hbo;cases hbo) (kb₁ b o hbo),hl.of_keeps λ b o hb hnf=>?_,?_,λ b o hb hnf=>?_,λ b o us hb hbd=>?_⟩
 ·obtain⟨sl,hs⟩:=hs₁.2.2 b o hb
  exact⟨_,keep b _ (noRecord b o hb hnf) hs,rfl⟩
 ·exact⟨h₁.objs.size,by rw[hs₁.1];exact Nat.le_refl _,_,_,_,_,he₃,⟨⟨Obj.cls_mapFields _ _,Obj.dict_mapFields _ _⟩,by rw[Array.getElem?_setIfInBounds_ne (by decide)];exact h0⟩,hd₃,by simp[hsz],kb₁.fresh,hTe,hT₃,tbd,by simp⟩
 ·obtain⟨sl,hs⟩:=hs₁.2.2 b o hb
  exact⟨sl,keep b _ (noRecord b o hb hnf) hs⟩
 ·by_cases q:b=e
  ·subst q
   exact⟨_,_,he₃,hd₃⟩
  ·have hb₁:h₁.get? b=some o:=(hs₁.2.1 b λ hm=>by
    obtain⟨_,o',ho',hnf⟩:=hl.mem hm
    rw[hb] at ho';cases ho';exact hnf us hbd).trans hb
   exact⟨o,us,keep b o q hb₁,hbd⟩
theorem xf_note {base:Heap}{env:Env}{outer:List Env}{L e:Addr}{cls a0:Value}{dct:Option Addr}{T:Addr}{Q:Unit->Shared->Prop}
  (hfr:A.frames=some (env::outer)) (hl:s.heap.FunFrames base (env::outer)) (hf:env.frame=some L) (ht:s.heap.Trd base e cls a0 .none dct T) (hkb:base.StaysIn s.heap) (hen:base.get? e=none)
  (h:∀ h',Heap.Ntd base (env::outer) e cls a0 (rawInt L) dct s.heap h'->Q () { s with heap:=h' }):wpAny M A (noteFrame (.ref e) env) Q E s:=by
 obtain⟨oe,vs,oT,ts,he,⟨⟨rfl,rfl⟩,h0⟩,hd,h1,hnT,hTe,hT,hdT,h3⟩:=ht
 unfold noteFrame
 simp only[hf]
 refine wpAny_bind (wpAny_field he hd h1 ?_)
 rw[if_pos (show (Value.ref T != Value.none)=true from by simp)]
 refine wpAny_bind (wpAny_field hT hdT h3 ?_)
 rw[if_neg (show ¬ ((Value.none == rawInt L)=true) from by simp[rawInt])]
 refine wpAny_bind (wpAny_setField hT hdT (Array.getElem?_eq_some_iff.mp h3).1 ?_)
 have other:∀ b,b≠T->(s.heap.update T (Obj.mapFields (·.setIfInBounds 3 Value.none))).get? b=s.heap.get? b:=λ b hb=>Heap.get?_update_other _ _ (Ne.symm hb)
 have noRecord:∀ b o,s.heap.get? b=some o->(∀ vs,o.data≠.fields vs)->b≠T:=λ b o hb hnf q=>by
  rw[q,hT] at hb;cases hb;exact hnf ts hdT
 refine xf_entryN hfr (hl.of_keeps λ b o hb hnf=>⟨o,(other b (noRecord b o hb hnf)).trans hb,rfl⟩) hf ((other e (Ne.symm hTe)).trans he)
  (λ b o hbo=>(other b λ q=>by rw[q,hnT] at hbo;cases hbo).trans (hkb b o hbo)) hen hd (Array.getElem?_eq_some_iff.mp h1).1 h0
  λ h' x=>h h' ⟨x.stays,x.frames,(by
   obtain⟨T',n,r⟩:=x.tr
   exact⟨T',by rw[Heap.size_after_update] at n;exact n,r⟩),λ b o hb hnf=>x.slots b o ((other b (noRecord b o hb hnf)).trans hb) hnf,λ b o us hb hbd=>(by
   by_cases q:b=T
   ·subst q
    exact x.recs _ _ _ (Heap.get?_update_self _ hT (Obj.isFreed_of_fields (Obj.data_mapFields hdT _))) (Obj.data_mapFields hdT _)
   ·exact x.recs b o us ((other b q).trans hb) hbd)⟩
theorem xf_land {base:Heap}{l:List Env}{e:Addr}{cls a0 fl:Value}{dct:Option Addr}{T:Addr}{Q:Unit->Shared->Prop}
  (hkb:base.StaysIn s.heap) (hl:s.heap.FunFrames base l) (ht:s.heap.Trd base e cls a0 fl dct T)
  (h:∀ h',base.StaysIn h'->h'.FunFrames base l->h'.Trd base e cls a0 .none dct T->s.heap.UpToSlots h'->(∀ b o vs,s.heap.get? b=some o->o.data=.fields vs->∃ o' vs',h'.get? b=some o'/\o'.data=.fields vs')->Q () { s with heap:=h' }):wpAny M A (setFlight (.ref e) none) Q E s:=by
 obtain⟨oe,vs,oT,ts,he,hcls,hd,h1,hnT,hTe,hT,hdT,h3⟩:=ht
 have hsz3:3<ts.size:=(Array.getElem?_eq_some_iff.mp h3).1
 have other:∀ b,b≠T->(s.heap.update T (Obj.mapFields (·.setIfInBounds 3 ((none:Option Addr).elim Value.none λ f=>rawInt f)))).get? b=s.heap.get? b:=
  λ b hb=>Heap.get?_update_other _ _ (Ne.symm hb)
 have noRecord:∀ b o,s.heap.get? b=some o->(∀ vs,o.data≠.fields vs)->b≠T:=λ b o hb hnf q=>by
  rw[q,hT] at hb;cases hb;exact hnf ts hdT
 unfold setFlight
 refine wpAny_bind (wpAny_field he hd h1 ?_)
 rw[if_pos (show (Value.ref T != Value.none)=true from by simp)]
 refine wpAny_setField hT hdT hsz3 (h _ (λ b o hbo=>(other b λ q=>by rw[q,hnT] at hbo;cases hbo).trans (hkb b o hbo))
  (hl.of_keeps λ b o hb hnf=>⟨o,(other b (noRecord b o hb hnf)).trans hb,rfl⟩) ?_ (λ b o hb hnf=>⟨o.slots,(other b (noRecord b o hb hnf)).trans hb⟩) λ b o us hb hbd=>?_)
 ·exact⟨oe,vs,_,_,(other e (Ne.symm hTe)).trans he,hcls,hd,h1,hnT,hTe,Heap.get?_update_self _ hT (Obj.isFreed_of_fields (Obj.data_mapFields hdT _)),Obj.data_mapFields hdT _,by simp[hsz3]⟩
 ·by_cases q:b=T
  ·subst q;exact⟨_,_,Heap.get?_update_self _ hT (Obj.isFreed_of_fields (Obj.data_mapFields hdT _)),Obj.data_mapFields hdT _⟩
  ·exact⟨o,us,(other b q).trans hb,hbd⟩
end
end PySem
namespace PySem
open Calls Spec
section
variable {prog:Program}{w:World}{M:Model}{A:Around}{E:Value->Shared->Prop}{env:Env}
variable {nm q:Str}{C N:Addr}{bs bm:List Value}{hdct:Bool}{sn:List Str}{sub:List Value}{ab:Bool}{col:Option Bool}{dd:Option Addr}{k0 k1 k2 k3 k5:Option Value}{newId:String}
variable {nm' q':Str}{P N':Addr}{bs' bm':List Value}{hdct':Bool}{sn':List Str}{sub':List Value}{ab':Bool}{col':Option Bool}{dd':Option Addr}{l0 l1 l2 l3 l5:Option Value}{newId':String}
theorem xf_match {h:Heap}{g:Array GenState}{d:Drawn}{t:Nat}{os:OsState}{e:Addr}{oe:Obj}{Q:Bool->Shared->Prop}
  (hC:h.get? C=some (excClassObj nm q C N bs bm hdct sn sub ab col dd k0 k1 k2 k3 k5 newId)) (hP:h.get? P=some (excClassObj nm' q' P N' bs' bm' hdct' sn' sub' ab' col' dd' l0 l1 l2 l3 l5 newId'))
  (he:h.get? e=some oe) (hcls:oe.cls=.ref C) (hbase:bm'.contains (.type "BaseException")=true) (hm:bm.contains (.ref P)=true)
  (hq:Q true ⟨h,g,d,t,os⟩):wpAny M A (excMatches (.ref e) (.ref P)) Q E ⟨h,g,d,t,os⟩:=by
 have hcB:(Value.ref P::bm').contains (.type "BaseException")=true:=by rw[List.contains_cons,hbase,Bool.or_true]
 have hcP:(Value.ref C::bm).contains (.ref P)=true:=by rw[List.contains_cons,hm,Bool.or_true]
 have f:=tc_notTuple
 unfold excMatches
 repeat (first | (with_reducible refine wpAny_loadPart_at he ?_;rw[hcls]) | with_reducible refine wpAny_loadPart_at hP ?_ | (with_reducible refine wpAny_isSubtype_exc hP ?_;rw[hcB]) | (with_reducible refine wpAny_isSubtype_exc hC ?_;rw[hcP]) | wp_step)
 exact hq
theorem xf_handle {s:Shared}{e:Addr}{t:Expr}{n:Str}{b₀:Stmt}{suite:List Stmt}{pos:Pos}{rest:List ExceptHandler}{Q:Flow->Shared->Prop}
  (hbase:bm'.contains (.type "BaseException")=true) (hm:bm.contains (.ref P)=true)
  (h:wpAny (model prog w) (A.mark (some (.ref e))) (eval t env) (λ c s₁=>c=.ref P/\s₁.heap.get? C=some (excClassObj nm q C N bs bm hdct sn sub ab col dd k0 k1 k2 k3 k5 newId)/\s₁.heap.get? P=some (excClassObj nm' q' P N' bs' bm' hdct' sn' sub' ab' col' dd' l0 l1 l2 l3 l5 newId')/\(∃ oe,s₁.heap.get? e=some oe/\oe.cls=.ref C)/\
   wpAny (model prog w) (A.mark (some (.ref e))) (setFlight (.ref e) none) (λ _ s₂=>
     wpAny (model prog w) (A.mark (some (.ref e))) (storeName env n (.ref e)) (λ _ s₃=>
      wpAny (model prog w) (A.mark (some (.ref e))) (execs (b₀::suite) env)
       (λ f s₄=>wpAny (model prog w) A (do bindName env n .none;unbindBehindTheSuite env n pos) (λ _ s₅=>Q f s₅) E s₄)
       (AsSuiteRaised (model prog w) (A.mark (some (.ref e))) env n pos (notedBy (model prog w) (A.mark (some (.ref e))) env (cameBackBy (model prog w) A env E))) s₃) (notedBy (model prog w) (A.mark (some (.ref e))) env (cameBackBy (model prog w) A env E)) s₂) (notedBy (model prog w) (A.mark (some (.ref e))) env (cameBackBy (model prog w) A env E)) s₁) (notedBy (model prog w) (A.mark (some (.ref e))) env (cameBackBy (model prog w) A env E)) s):
  wpAny (model prog w) A (handleBy (.ref e) env (.ExceptHandler (some t) (some n) (b₀::suite) pos::rest)) Q E s:=by
 refine wpAny_handleBy_cons (codeAny_handlers_test (wpAny_mono h (λ c s₁ h₁=>?_) λ _ _ y=>y)) (by intro q;cases q)
 obtain⟨rfl,hC,hP,⟨oe,he,hcls⟩,hk⟩:=h₁
 obtain⟨hh,g,d,tk,os⟩:=s₁
 exact xf_match hC hP he hcls hbase hm (codeAny_handlers_suite_as hk)
end
end PySem
namespace L3
open PySem PySem.Spec L2
open PyProof.Rows hiding St
noncomputable def TrO (T:Addr):HO:=.ext λ h=>∃ oT ts,h.get? T=some oT/\oT.data=.fields ts
def Fly0 (h:Heap) (e:Addr):Prop:=∃ oe vs a0,h.get? e=some oe/\oe.data=.fields vs/\vs[1]?=some .none/\vs[0]?=some a0
def Fly1 (h:Heap) (H:Hp) (e:Addr):Prop:=∃ oe vs a0 T oT ts,h.get? e=some oe/\oe.data=.fields vs/\vs[0]?=some a0/\vs[1]?=some (.ref T)/\T≠e/\H T=some (TrO T)/\h.get? T=some oT/\oT.data=.fields ts/\ts[3]?=some .none
def IsErr (H:Hp) (e:Addr):Prop:=∃ C dx,H e=some (ErrO e C dx)
section
variable {P:Program}{w:World}{H:Hp}{h h':Heap}
theorem fly_un {fs as:List Addr}(hok:HOk P w H h) (hf:∀ b∈fs,H b=none/\∀ o,h.get? b=some o->∀ vs,o.data≠.fields vs) (st:(PySem.W.hideAll h as).StaysIn h') (us:h.UpToSlots h')
  (has:∀ a∈as,a∈fs\/∃ φ:Heap->Prop,H a=some (.ext φ)/\φ h'/\∃ o,h'.get? a=some o):Un fs [] H H h h'/\HOk P w H h':=by
 have st':∀ b o,b∉as->h.get? b=some o->h'.get? b=some o:=λ b o hb e=>st b o (PySem.W.hideAll_get _ e hb)
 refine⟨⟨λ b o e n hb _=>st' b o (λ hm=>?_) e,λ b o e n hb _=>us b o e ((hf b hb).2 o e),λ _ _ _ n _=>n,λ b o e _=>?_,λ _ _ q=>q,λ _ _ _ q=>q,λ _ ps q=>⟨#[],by rw[q];simp⟩⟩,λ a o e=>?_⟩
 ·rcases has b hm with z | ⟨φ,z,_⟩
  ·exact hb z
  ·rw[n] at z;cases z
 ·by_cases hm:b∈as
  ·rcases has b hm with z | ⟨φ,_,_,z⟩
   ·obtain⟨sl,q⟩:=us b o e ((hf b z).2 o e)
    exact⟨_,q⟩
   ·exact z
  ·exact⟨o,st' b o hm e⟩
 ·by_cases hm:a∈as
  ·rcases has a hm with z | ⟨φ,z,z1,z2⟩
   ·rw[(hf a z).1] at e;cases e
   ·rw[e] at z;cases z
    exact⟨z1,z2,(hok a _ e).2.2⟩
  ·refine (hok a o e).stay (λ b u hb q=>?_) (λ _ q=>q) λ _ _ q=>q
   rcases hb with rfl | hb
   ·exact st' _ u hm q
   ·refine st' _ u (λ hm'=>?_) q
    rcases has b hm' with z | ⟨φ,z,_⟩
    ·rw[(hf b z).1] at hb;cases hb
    ·rw[hb] at z;cases z
theorem fly_new {fs:List Addr}{T:Addr}{oT:Obj}{ts:Array Value}(u:Un fs [] H H h h') (hok:HOk P w H h') (hk:HOk P w H h) (hp:h.objs.size<=T) (e:h'.get? T=some oT) (hd:oT.data=.fields ts):
  H T=none/\Un fs [] H (upd H T (TrO T)) h h'/\HOk P w (upd H T (TrO T)) h':=by
 have hn:=hk.fresh hp
 refine⟨hn,⟨u.keep,u.slot,λ b o q n x=>by rw[upd_ne (Nat.ne_of_lt (Nat.lt_of_lt_of_le (Heap.lt_size q) hp))];exact n,u.there,λ b xs q=>by rw[upd_ne (ne_of_none q hn)];exact q,λ b o xs q=>by rw[upd_ne (ne_of_none q hn)];exact q,λ b ps q=>⟨#[],by rw[upd_ne (ne_of_none q hn),q];simp⟩⟩,λ b o q=>?_⟩
 by_cases hb:b=T
 ·subst hb
  rw[upd_same] at q;cases q
  exact⟨⟨oT,ts,e,hd⟩,⟨oT,e⟩,λ h1 h2 ⟨o,ts,a,b⟩ k=>⟨o,ts,k _ a,b⟩⟩
 ·rw[upd_ne hb] at q
  exact (hok b o q).stay (λ _ _ _ z=>z) (λ c z=>by rw[upd_ne (ne_of_none z hn)];exact z) λ c xs z=>by rw[upd_ne (ne_of_none z hn)];exact z
end
section
variable {X:Cx}{pins:List (Addr×Obj)}{σ:St}{H:Hp}{s:Shared}{e:Addr}
theorem frsF (I:Inv X pins σ H s):∀ b∈frs X.stack,H b=none/\∀ o,s.heap.get? b=some o->∀ vs,o.data≠.fields vs:=λ b hb=>
 ⟨I.stkFree b hb,λ o ho=>by
  obtain⟨_,o',ho',hd⟩:=I.stack.mem hb
  rw[ho] at ho';cases ho';exact hd⟩
theorem errO_at {H:Hp}{h:Heap}{P:Program}{w:World}{C dx:Addr}{oe:Obj}(hok:HOk P w H h) (he:H e=some (ErrO e C dx)) (q:h.get? e=some oe):oe.cls=.ref C/\oe.dict=some dx:=by
 obtain⟨⟨o',_,a,b,c,_⟩,_⟩:=hok e _ he
 rw[q] at a;cases a;exact⟨b,c⟩
theorem leave_fly {M:Model}{E:Value->Shared->Prop}(I:Inv X pins σ H s) (hst:X.stack=X.env::X.outer) (hfr:X.env.frame=some X.env.locals) (he:IsErr H e) (hf:Fly0 s.heap e\/Fly1 s.heap H e) {Q:Unit->Shared->Prop}
  (hq:∀ h' T,H T=none->Un (frs X.stack) [] H (upd H T (TrO T)) s.heap h'->HOk X.prog X.w (upd H T (TrO T)) h'->Fly1 h' (upd H T (TrO T)) e->Q () { s with heap:=h' }):wpAny M X.A (leaving X.env (.ref e)) Q E s:=by
 obtain⟨C,dx,hE⟩:=he
 have hF:=I.ok.frames
 rw[hst] at hF
 have hS:=I.stack
 rw[hst] at hS
 have fin:∀ (as:List Addr) (oe:Obj) (a0:Value),s.heap.get? e=some oe->(∀ a∈as,a=e\/a∈frs X.stack\/H a=some (TrO a))->
   ∀ h':Heap,Heap.Lfd (PySem.W.hideAll s.heap as) (X.env::X.outer) e oe.cls a0 oe.dict s.heap h'->Q () { s with heap:=h' }:=λ as oe a0 g0 has h' x=>by
  obtain⟨T,hp,oe',vs',oT,ts,a1,⟨⟨a2,a3⟩,a4⟩,a5,a6,a7,a8,a9,a10,a11⟩:=x.tr
  obtain⟨z1,z2⟩:=errO_at I.hok hE g0
  obtain⟨u,hok⟩:=fly_un (as:=as) I.hok (frsF I) x.stays x.slots λ a ha=>by
   rcases has a ha with z | z | z
   ·rw[z];exact .inr ⟨_,hE,⟨oe',vs',a1,a2.trans z1,a3.trans z2,a5⟩,oe',a1⟩
   ·exact .inl z
   ·obtain⟨⟨oT,ts,q1,q2⟩,_⟩:=I.hok a _ z
    obtain⟨o',ts',q3,q4⟩:=x.recs _ _ _ q1 q2
    exact .inr ⟨_,z,⟨o',ts',q3,q4⟩,o',q3⟩
  obtain⟨n,u',hok'⟩:=fly_new u hok I.hok hp a9 a10
  exact hq h' T n u' hok' ⟨oe',vs',a0,T,oT,ts,a1,a5,a4,a6,a8,upd_same,a9,a10,a11⟩
 have hin:∀ (r:List Addr),∀ env∈X.env::X.outer,∀ a,env.frame=some a->a∈r++frs X.stack:=λ r env hm a ha=>List.mem_append_right _ (List.mem_filterMap.mpr ⟨env,by rw[hst];exact hm,ha⟩)
 rcases hf with ⟨oe,vs,a0,g0,g1,g2,g3⟩ | ⟨oe,vs,a0,T,oT,ts,g0,g1,g3,g2,g4,g5,g6,g7,g8⟩
 ·refine xf_first (base:=PySem.W.hideAll s.heap ([e]++frs X.stack)) hF (PySem.W.funFrames_hide hS (hin _)) hfr g0 (λ b o q=>PySem.W.of_hideAll _ q) (PySem.W.hideAll_none _ (by simp)) g1 g2 g3 (fin _ oe a0 g0 λ a ha=>?_)
  rcases List.mem_append.mp ha with q | q
  ·exact .inl (List.mem_singleton.mp q)
  ·exact .inr (.inl q)
 ·refine xf_next (base:=PySem.W.hideAll s.heap ([e,T]++frs X.stack)) hF (PySem.W.funFrames_hide hS (hin _)) hfr ⟨oe,vs,oT,ts,g0,⟨⟨rfl,rfl⟩,g3⟩,g1,g2,PySem.W.hideAll_none _ (by simp),g4,g6,g7,g8⟩ (λ b o q=>PySem.W.of_hideAll _ q) (PySem.W.hideAll_none _ (by simp)) (fin _ oe a0 g0 λ a ha=>?_)
  rcases List.mem_append.mp ha with q | q
  ·rcases List.mem_cons.mp q with q | q
   ·exact .inl q
   ·exact .inr (.inr (by rw[List.mem_singleton.mp q];exact g5))
  ·exact .inr (.inl q)
end
end L3
namespace L3
open PySem PySem.Spec L2
open PyProof.Rows hiding St
section
variable {X:Cx}{pins:List (Addr×Obj)}{σ:St}{H:Hp}{s:Shared}{e:Addr}{M:Model}{A:Around}{E:Value->Shared->Prop}
theorem note_fly (I:Inv X pins σ H s) (hst:X.stack=X.env::X.outer) (hfr:X.env.frame=some X.env.locals) (he:IsErr H e) (hf:Fly1 s.heap H e) {Q:Unit->Shared->Prop}
  (hq:∀ h' T,H T=none->Un (frs X.stack) [] H (upd H T (TrO T)) s.heap h'->HOk X.prog X.w (upd H T (TrO T)) h'->Fly1 h' (upd H T (TrO T)) e->Q () { s with heap:=h' }):
  wpAny M X.A (noteFrame (.ref e) X.env) (λ _ s₂=>wpAny M X.A (setFlight (.ref e) none) Q E s₂) E s:=by
 obtain⟨C,dx,hE⟩:=he
 have hF:=I.ok.frames
 rw[hst] at hF
 have hS:=I.stack
 rw[hst] at hS
 obtain⟨oe,vs,a0,T,oT,ts,g0,g1,g3,g2,g4,g5,g6,g7,g8⟩:=hf
 have hin:∀ env∈X.env::X.outer,∀ a,env.frame=some a->a∈[e,T]++frs X.stack:=λ env hm a ha=>List.mem_append_right _ (List.mem_filterMap.mpr ⟨env,by rw[hst];exact hm,ha⟩)
 refine xf_note (base:=PySem.W.hideAll s.heap ([e,T]++frs X.stack)) hF (PySem.W.funFrames_hide hS hin) hfr ⟨oe,vs,oT,ts,g0,⟨⟨rfl,rfl⟩,g3⟩,g1,g2,PySem.W.hideAll_none _ (by simp),g4,g6,g7,g8⟩ (λ b o q=>PySem.W.of_hideAll _ q) (PySem.W.hideAll_none _ (by simp)) λ h1 x=>?_
 obtain⟨T',hp,tr⟩:=x.tr
 refine xf_land (s:={ s with heap:=h1 }) x.stays x.frames tr λ h2 y1 y2 y3 y4 y5=>?_
 obtain⟨oe',vs',oT',ts',a1,⟨⟨a2,a3⟩,a4⟩,a5,a6,a7,a8,a9,a10,a11⟩:=y3
 obtain⟨z1,z2⟩:=errO_at I.hok hE g0
 obtain⟨u,hok⟩:=fly_un (as:=[e,T]++frs X.stack) I.hok (frsF I) y1 (x.slots.trans y4) λ a ha=>by
  rcases List.mem_append.mp ha with q | q
  ·rcases List.mem_cons.mp q with q | q
   ·rw[q];exact .inr ⟨_,hE,⟨oe',vs',a1,a2.trans z1,a3.trans z2,a5⟩,oe',a1⟩
   ·rw[List.mem_singleton.mp q]
    obtain⟨o1,t1,b1,b2⟩:=x.recs _ _ _ g6 g7
    obtain⟨o2,t2,b3,b4⟩:=y5 _ _ _ b1 b2
    exact .inr ⟨_,g5,⟨o2,t2,b3,b4⟩,o2,b3⟩
  ·exact .inl q
 obtain⟨n,u',hok'⟩:=fly_new u hok I.hok hp a9 a10
 exact hq h2 T' n u' hok' ⟨oe',vs',a0,T',oT',ts',a1,a5,a4,a6,a8,upd_same,a9,a10,a11⟩
theorem land_fly (I:Inv X pins σ H s) (he:IsErr H e) (hf:Fly1 s.heap H e) {Q:Unit->Shared->Prop}
  (hq:∀ h',Un (frs X.stack) [] H H s.heap h'->HOk X.prog X.w H h'->Q () { s with heap:=h' }):wpAny M A (setFlight (.ref e) none) Q E s:=by
 obtain⟨C,dx,hE⟩:=he
 obtain⟨oe,vs,a0,T,oT,ts,g0,g1,g3,g2,g4,g5,g6,g7,g8⟩:=hf
 have hin:∀ env∈X.stack,∀ a,env.frame=some a->a∈[T]++frs X.stack:=λ env hm a ha=>List.mem_append_right _ (List.mem_filterMap.mpr ⟨env,hm,ha⟩)
 refine xf_land (base:=PySem.W.hideAll s.heap ([T]++frs X.stack)) (λ b o q=>PySem.W.of_hideAll _ q) (PySem.W.funFrames_hide I.stack hin) ⟨oe,vs,oT,ts,g0,⟨⟨rfl,rfl⟩,g3⟩,g1,g2,PySem.W.hideAll_none _ (by simp),g4,g6,g7,g8⟩ λ h2 y1 y2 y3 y4 y5=>?_
 obtain⟨u,hok⟩:=fly_un (as:=[T]++frs X.stack) I.hok (frsF I) y1 y4 λ a ha=>by
  rcases List.mem_append.mp ha with q | q
  ·rw[List.mem_singleton.mp q]
   obtain⟨o2,t2,b3,b4⟩:=y5 _ _ _ g6 g7
   exact .inr ⟨_,g5,⟨o2,t2,b3,b4⟩,o2,b3⟩
  ·exact .inl q
 exact hq h2 u hok
theorem goes_ok {i:Nat}{x:Str}{pos:Pos}{Q:Unit->Shared->Prop}(I:Inv X pins σ H s) (hN:X.N.Nodup) (hi:X.N[i]?=some x) (hk:X.env.kindOf x=some .local)
  (h:∀ s',Inv X pins (σ.set i none) H s'->Q () s'):wpAny M A (do bindName X.env x .none;unbindBehindTheSuite X.env x pos) Q E s:=by
 obtain⟨m,hn,hl⟩:=id I.loc
 have hcls:(X.env.scope.kind == .class||(X.env.scope.kind == .module&&X.env.locals != X.env.globals))=false:=by rw[I.ok.kind];rfl
 have cne:=I.cne
 obtain⟨oL,_,_,hoL,_⟩:=id hn
 refine wpAny_nameGoes_keeps hk hn hcls λ h' v hn' hs=>?_
 refine h _ ⟨I.ok,I.os,I.bare,⟨λ b o e n hb hx=>?_,λ b o e n hb hx=>?_,I.base.free,λ b o e hx=>?_,I.base.tups,I.base.frzs,I.base.tbls⟩,⟨_,hn',λ j y v' e1 e2 e3=>?_⟩,λ y c e=>?_,I.free,I.freeC,λ p hp=>?_,λ b ob e=>?_,by simpa using I.len⟩
 ·exact (hs.2 b (Nat.ne_of_lt (Nat.lt_of_lt_of_le (Heap.lt_size e) I.ok.above))).trans (I.base.keep b o e n hb hx)
 ·obtain⟨sl,e1⟩:=I.base.slot b o e n hb hx
  exact⟨sl,(hs.2 b (Nat.ne_of_lt (Nat.lt_of_lt_of_le (Heap.lt_size e) I.ok.above))).trans e1⟩
 ·obtain⟨o',e1⟩:=I.base.there b o e hx
  exact⟨o',(hs.2 b (Nat.ne_of_lt (Nat.lt_of_lt_of_le (Heap.lt_size e) I.ok.above))).trans e1⟩
 ·by_cases hj:j=i
  ·subst hj
   rw[List.getElem?_set] at e2
   simp at e2
  ·rw[List.getElem?_set_ne (Ne.symm hj)] at e2
   obtain⟨u',r',q⟩:=hl j y v' e1 e2 e3
   refine⟨u',r',?_⟩
   rcases q with ⟨k,e⟩ | ⟨k,c,e,z⟩
   ·refine .inl ⟨k,?_⟩
    have:y≠x:=λ e=>hj (nodup_ix hN e1 (e▸hi))
    simp[this,e]
   ·exact .inr ⟨k,c,e,z.sameBut hs (cne y c e)⟩
 ·obtain⟨w',z⟩:=I.cell y c e
  exact⟨w',z.sameBut hs (cne y c e)⟩
 ·obtain⟨e,n,ne,nf,d⟩:=I.pin p hp
  exact⟨(hs.2 p.1 ne).trans e,n,ne,nf,d⟩
 ·refine (I.hok b ob e).stay (λ c w' hc q=>(hs.2 c ?_).trans q) (λ _ q=>q) λ _ _ q=>q
  rintro rfl
  rcases hc with rfl | hc
  ·rw[I.free] at e;cases e
  ·rw[I.free] at hc;cases hc
end
end L3
namespace L3
open PySem PySem.Spec L2
open PyProof.Rows hiding St
abbrev flds:List Str:=["place","pair","way","times","told","name","row"]
theorem fld_noNm {f:Str}(h:f∈flds):f∈noNm:=by
 simp only[List.mem_cons,List.not_mem_nil,or_false] at h ⊢
 rcases h with h | h | h | h | h | h | h <;> simp[h]
theorem ve_fld {f:Str}(h:f∈flds):typeLookup (.type "ValueError") f=pure none:=by
 simp only[List.mem_cons,List.not_mem_nil,or_false] at h
 rcases h with rfl | rfl | rfl | rfl | rfl | rfl | rfl <;> (rw[typeLookup_type,builtinLookup_eq_fast];kernel_rfl)
theorem ve_class:typeLookup (.type "ValueError") "__class__"=pure (some (.builtin "object.__class__")):=by rw[typeLookup_type,builtinLookup_eq_fast];kernel_rfl
section
variable {K:PySem.W.Frag}{h:Heap}{c:Str}{C P N NP:Addr}{bm:List Value}
theorem OwnC.at (o:OwnC K c C bm N) (X:K.In h):(∃ (q:Str) (bs:List Value) (sn:List Str) (sub:List Value) (ab:Bool) (col:Option Bool) (dd:Option Addr) (k0 k1 k2 k3 k5:Option Value),h.get? C=some (excClassObj c q C N bs bm true sn sub ab col dd k0 k1 k2 k3 k5 "ValueError.__new__"))/\h.Ns N (h.nsMap N)/\∀ n∈noNm,h.nsMap N n=none:=by
 obtain⟨⟨q,bs,sn,sub,ab,col,dd,k0,k1,k2,k3,k5,e⟩,ok,hn⟩:=o
 exact⟨⟨q,bs,sn,sub,ab,col,dd,k0,k1,k2,k3,k5,X _ _ e⟩,.of_isNs (PySem.W.isNs_of_in X ok),λ n m=>PySem.W.nsMap_none_of_in X ok (hn n m)⟩
theorem ErrN.xcls (e:ErrN K c C P N NP) (X:K.In h):XCls h C P "ValueError" bmV:=by
 obtain⟨⟨q,bs,sn,sub,ab,col,dd,k0,k1,k2,k3,k5,hC⟩,hN,hn⟩:=e.own.at X
 obtain⟨⟨q',bs',sn',sub',ab',col',dd',l0,l1,l2,l3,l5,hP⟩,hN',hn'⟩:=e.par.at X
 refine⟨PySem.F.attrBase_ValueError,by decide,ve_class,c,q,N,bs,sn,sub,ab,col,dd,k0,k1,k2,k3,k5,_,_,_,hC,hN,⟨⟨_,_,_,_,hP,hN'⟩⟩,λ n m=>?_⟩
 have m':n∈noNm:=by
  simp only[List.mem_cons,List.not_mem_nil,or_false] at m ⊢
  rcases m with m | m | m <;> simp[m]
 exact⟨hn n m',hn' n m'⟩
end
noncomputable def Er0 (e C vs:Addr):HO:=.ext λ h=>h.get? e=some { cls:=.ref C,data:=.fields #[.ref vs,.none,.none,.none,.bool false,.none] }
noncomputable def Er1 (e C dx vs:Addr):HO:=.ext λ h=>h.get? e=some { cls:=.ref C,dict:=some dx,data:=.fields #[.ref vs,.none,.none,.none,.bool false,.none] }
section
variable {P:Program}{w:World}{fs:List Addr}{H:Hp}{h h':Heap}{e dx:Addr}{φ ψ:Heap->Prop}{fv:List (Str×V)}
theorem un_err (hok:HOk P w H h) (he:H e=some (.ext φ)) (hd:h.objs.size<=dx) (k:∀ b o,b≠e->h.get? b=some o->h'.get? b=some o) (hψ:ψ h') (heo:∃ o,h'.get? e=some o)
  (st:∀ h1 h2:Heap,ψ h1->(∀ o,h1.get? e=some o->h2.get? e=some o)->ψ h2) (hx:∃ mA,h'.Ns1 dx mA/\∀ f,RelO (fv.lookup f) (mA f)):
  Un fs [] H (upd (upd H dx (.xd fv)) e (.ext ψ)) h h'/\HOk P w (upd (upd H dx (.xd fv)) e (.ext ψ)) h':=by
 have hn:H dx=none:=hok.fresh hd
 have up:∀ b,b≠e->b≠dx->upd (upd H dx (.xd fv)) e (.ext ψ) b=H b:=λ b a c=>by rw[upd_ne a,upd_ne c]
 have ue:∀ b,H b=none->b≠e:=λ b a z=>by rw[z,he] at a;cases a
 have ux:∀ b o,h.get? b=some o->b≠dx:=λ b o q=>Nat.ne_of_lt (Nat.lt_of_lt_of_le (Heap.lt_size q) hd)
 have us:∀ b u,H b=some u->(∀ φ,u≠.ext φ)->upd (upd H dx (.xd fv)) e (.ext ψ) b=some u:=λ b u q n=>by
  rw[up b (ne_of q he (n _)) (ne_of_none q hn)];exact q
 refine⟨⟨λ b o q n _ _=>k b o (ue b n) q,λ b o q n _ _=>⟨o.slots,k b o (ue b n) q⟩,λ b o q n _=>by rw[up b (ue b n) (ux b o q)];exact n,λ b o q _=>?_,λ b xs q=>us b _ q (λ _ z=>by cases z),λ b o u q=>us b _ q (λ _ z=>by cases z),λ b ps q=>⟨#[],by rw[us b _ q (λ _ z=>by cases z)];simp⟩⟩,λ a o q=>?_⟩
 ·by_cases z:b=e
  ·rw[z];exact heo
  ·exact⟨o,k b o z q⟩
 ·by_cases z:a=e
  ·subst z
   rw[upd_same] at q;cases q
   exact⟨hψ,heo,st⟩
  ·rw[upd_ne z] at q
   by_cases z':a=dx
   ·subst z'
    rw[upd_same] at q;cases q
    exact hx
   ·rw[upd_ne z'] at q
    refine (hok a o q).stay (λ b u hb c=>k b u ?_ c) (λ b c=>us b _ c (λ _ z=>by cases z)) λ b xs c=>us b _ c (λ _ z=>by cases z)
    rcases hb with rfl | hb
    ·exact z
    ·exact ne_of hb he (by intro z;cases z)
theorem un_word (hok:HOk P w H h) (he:H e=some (.ext φ)) (hψ:ψ h) (st:∀ h1 h2:Heap,ψ h1->(∀ o,h1.get? e=some o->h2.get? e=some o)->ψ h2):
  Un fs [] H (upd H e (.ext ψ)) h h/\HOk P w (upd H e (.ext ψ)) h:=by
 have ue:∀ b,H b=none->b≠e:=λ b a z=>by rw[z,he] at a;cases a
 have us:∀ b u,H b=some u->(∀ φ,u≠.ext φ)->upd H e (.ext ψ) b=some u:=λ b u q n=>by
  rw[upd_ne (ne_of q he (n _))];exact q
 refine⟨⟨λ b o q n _ _=>q,λ b o q n _ _=>⟨o.slots,q⟩,λ b o q n _=>by rw[upd_ne (ue b n)];exact n,λ b o q _=>⟨o,q⟩,λ b xs q=>us b _ q (λ _ z=>by cases z),λ b o u q=>us b _ q (λ _ z=>by cases z),λ b ps q=>⟨#[],by rw[us b _ q (λ _ z=>by cases z)];simp⟩⟩,λ a o q=>?_⟩
 by_cases z:a=e
 ·subst z
  rw[upd_same] at q;cases q
  exact⟨hψ,(hok a _ he).2.1,st⟩
 ·rw[upd_ne z] at q
  exact (hok a o q).stay (λ b u hb c=>c) (λ b c=>us b _ c (λ _ z=>by cases z)) λ b xs c=>us b _ c (λ _ z=>by cases z)
end
def tSelf (K:PySem.W.Frag) (f:Str):TS:=λ D σ H=>∃ e C vs v c,σ[0]?=some (some (.ref e))/\σ[1]?=some (some v)/\H e=some (Er0 e C vs)/\ErrC K c C/\
 ∀ dx,H dx=none->dx≠e->D.nx σ (upd (upd H dx (.xd [(f,v)])) e (Er1 e C dx vs))
theorem ps_self {X:Cx}{o value:Expr}{f:Str}{pos pos':Pos}(hf:f∈flds) (ho:PE X o (tVar 0)) (hv:PE X value (tVar 1)) (hs:swapsWith value (some (.Attribute o f pos')) pos.line X.env=pure false):
  PS X (.Assign [.Attribute o f pos'] value pos) (tSelf X.K f):=by
 intro pins s σ H D I h
 obtain⟨e,C,vs,v,c,h0,h1,h2,⟨P,N,NP,hE⟩,hq⟩:=h
 refine plainObj_wpAny_Assign_Attribute (thn (hv pins s σ H (λ x H'=>x=v/\H'=H) I ⟨v,h1,rfl,rfl⟩) λ u s1 ⟨y,H1,I1,ry,ey,eH⟩=>?_) hs
 subst ey eH
 refine thn (ho pins s1 σ H1 (λ x H'=>x=.ref e/\H'=H1) I1 ⟨_,h0,rfl,rfl⟩) λ ov s2 ⟨x,H2,I2,rx,ex,eH2⟩=>?_
 subst ex eH2
 obtain rfl:ov=Value.ref e:=rx
 obtain⟨hh,g,d,t,os⟩:=s2
 obtain⟨⟨q,bs,sn,sub,ab,col,dd,k0,k1,k2,k3,k5,hC⟩,hN,hn⟩:=hE.own.at I2.kIn
 obtain⟨⟨q',bs',sn',sub',ab',col',dd',l0,l1,l2,l3,l5,hP⟩,hN',hn'⟩:=hE.par.at I2.kIn
 have hsa:("__setattr__":Str)∈noNm:=by simp
 have h3:hh.get? e=some { cls:=.ref C,data:=.fields #[.ref vs,.none,.none,.none,.bool false,.none] }:=(I2.hok e _ h2).1
 refine xc_setattr PySem.F.store_ValueError hC hN ⟨⟨_,_,_,_,hP,hN'⟩⟩ (hn _ hsa) (hn' _ hsa) (hn _ (fld_noNm hf)) (hn' _ (fld_noNm hf)) (ve_fld hf) h3 rfl rfl (λ _=>nofun) λ h' tk' z1 z2 z3=>?_
 have dn:=I2.hok.fresh (Nat.le_refl hh.objs.size)
 obtain⟨u',hok'⟩:=un_err (fs:=X.fs) (fv:=[(f,y)]) (ψ:=λ h=>h.get? e=some { cls:=.ref C,dict:=some hh.objs.size,data:=.fields #[.ref vs,.none,.none,.none,.bool false,.none] }) I2.hok h2 (Nat.le_refl _) z3 z1 ⟨_,z1⟩ (λ h1 h2 a b=>b _ a) ⟨_,z2,λ f'=>by
  by_cases hff:f'=f
  ·subst hff
   simp only[List.lookup_cons,beq_self_eq_true,if_true]
   exact ry
  ·have:(f' == f)=false:=by simpa using hff
   simp only[List.lookup_cons,this,List.lookup_nil,if_neg hff]
   trivial⟩
 exact⟨σ,_,I2.un (t':=tk') u' hok',hq _ dn (ne_of_none h2 dn).symm⟩
noncomputable def spI (K:PySem.W.Frag) (f:Str):Sp:=λ vs H Q _=>∃ e C va v c,vs=[.ref e,v]/\H e=some (Er0 e C va)/\ErrC K c C/\∀ dx,H dx=none->dx≠e->Q .non (upd (upd H dx (.xd [(f,v)])) e (Er1 e C dx va))
structure InF (K:PySem.W.Frag) (mg:Str->Option Value) (c f:Str) (st:Stmt):Prop where
 fl:f∈flds
 ex:∃ (C P N NP fI:Addr) (fd:FuncData),ErrN K c C P N NP/\mg c=some (.ref C)/\PySem.W.keepIn K (.ref C)=true/\PySem.W.nsIn K N "__init__"=some (some (.ref fI))/\PySem.W.isFn K (.ref fI)=true/\Fun K "__init__" (c++".__init__") st fI fd
structure InS (f:Str) (st:Stmt):Prop where
 sc:FnScope ["self",f] ["self",f] (defScope st)
 bd:∃ p1 p2 p3 p4,defBody st=[.Assign [.Attribute (.Name "self" p1) f p2] (.Name f p3) p4]/\∀ env:Env,swapsWith (.Name f p3) (some (.Attribute (.Name "self" p1) f p2)) p4.line env=pure false
 bn:∀ (x q:Str) (kV doc pm:Value) (an:Option Addr) (cdv ct:Value) (us:List Value),us.length=2->bindArgs (PySem.W.fnOf x q (defArgs st) (defBody st) (defScope st) .none kV doc pm an cdv ct) ⟨us,[]⟩=pure ((["self",f]:List Str).zip us)
theorem fld_dbg {f:Str}(h:f∈flds):(f == ("__debug__":Str))=false/\(f == ("__classdict__":Str))=false:=by
 simp only[List.mem_cons,List.not_mem_nil,or_false] at h
 rcases h with rfl | rfl | rfl | rfl | rfl | rfl | rfl <;> exact⟨by decide,by decide⟩
theorem init_ok {P:Program}{w:World}{K:PySem.W.Frag}{mg:Str->Option Value}{base:Heap}{c f:Str}{st:Stmt}{fI:Addr}{fd:FuncData}(hf:f∈flds) (F:Fun K "__init__" (c++".__init__") st fI fd) (S:InS f st):
  FnOk P w K mg base CX0 1 fI fd ["self",f] (spI K f):=by
 obtain⟨p1,p2,p3,p4,hb,hs⟩:=S.bd
 refine F.ok (k:=0) S.sc (λ vs H Q E ⟨e,C,va,v,c,h,_⟩=>by rw[h];rfl) λ cdv A outer s H vs Q E hr h=>?_
 rw[hb]
 obtain⟨e,C,va,v,c',h1,h2,h3,h4⟩:=h
 subst h1
 have vis:∀ x∈(["self",f]:List Str),Vis (defScope st) x:=λ x m=>(S.sc.par x m).elim .inl (λ z=>.inr (.inl z))
 exact⟨_,pss_one (ps_self hf (pv 0 rfl (vis _ (by simp))) (pv 1 rfl (vis _ (by simp)) (fld_dbg hf).1 (fld_dbg hf).2) (hs _)),e,C,va,v,c',rfl,rfl,h2,h3,h4⟩
end L3
namespace L3
open PySem PySem.Spec L2
open PyProof.Rows hiding St
theorem ns_some_of {K:PySem.W.Frag}{h:Heap}{N:Addr}{mg:Str->Option Value}{n:Str}{v:Value}(X:K.In h) (G:h.Ns N mg) (e:PySem.W.nsIn K N n=some (some v)):mg n=some v:=by
 obtain⟨o,es,ep,ho,hd,_,hf⟩:=G
 unfold PySem.W.nsIn at e
 split at e
 ·rename_i c d es' n' sl q
  have:=X _ _ q
  rw[ho] at this
  cases this
  cases hd
  split at e
  ·rename_i en he
   cases e
   rw[<- hf]
   unfold nsFind findBy
   rw[<- Array.find?_toList,he]
   rfl
  ·split at e <;> cases e
 ·cases e
def XP (X:Cx) (pins:List (Addr×Obj)) (fl:Bool) (σ:St) (Q:Addr->Hp->Prop) (v:Value) (s':Shared):Prop:=
 ∃ e pins' σ' H',v=.ref e/\(fl=true->pins'=pins/\σ'=σ)/\Inv X pins' σ' H' s'/\IsErr H' e/\((fl=false/\Fly0 s'.heap e)\/Fly1 s'.heap H' e)/\Q e H'
def NewErr (K:PySem.W.Frag) (c f:Str) (x:V) (e:Addr) (H':Hp):Prop:=∃ C dx,ErrC K c C/\H' e=some (ErrO e C dx)/\H' dx=some (.xd [(f,x)])
theorem wp_raise {X:Cx}{c f:Str}{st:Stmt}{e:Expr}{te:TE}{p pos rpos:Pos}{pins:List (Addr×Obj)}{σ:St}{H:Hp}{s:Shared}{Q:Addr->Hp->Prop}{R:Flow->Shared->Prop}
  (G:InF X.K X.mg c f st) (S:InS f st) (hr:Room 2 X.A) (hc:X.calm=true) (hn:∀ v s,¬ X.xe v s) (hg:Gl X c) (hdb:(c == ("__debug__":Str))=false) (he:PE X e te)
  (hs:starEach [e] X.env=(false,eval e X.env)::starEach [] X.env) (hpl:(backTo pos (starEach [] X.env)).any (·.1)=false)
  {W:Value->Shared->Prop}(hW:∀ v s',XP X pins false σ Q v s'->W v s') (I:Inv X pins σ H s) (h:te σ H λ x H1=>∀ a H',Same H1 H'->NewErr X.K c f x a H'->Q a H'):
  wpAny (model X.prog X.w) X.A (exec (.Raise (some (.Call (.Name c p) [e] [] pos)) none rpos) X.env) R W s:=by
 obtain⟨C,P,N,NP,fI,fd,hE,hm,hk,hi,hfn,F⟩:=G.ex
 obtain⟨⟨q,bs,sn,sub,ab,col,dd,k0,k1,k2,k3,k5,lk⟩,_,_⟩:=id hE.own
 rw[arm_exec_Raise]
 refine wpAny_bind (wpAny_standAt (xc_raise (C:=C) (nm:=c) (q:=q) (N:=N) (bs:=bs) (bm:=.ref P::bmV) (hdct:=true) (sn:=sn) (sub:=sub) (ab:=ab) (col:=col) (dd:=dd) (k0:=k0) (k1:=k1) (k2:=k2) (k3:=k3) (k5:=k5) (newId:="ValueError.__new__")
  (by rw[List.contains_cons,show bmV.contains (.type "BaseException")=true from by decide,Bool.or_true]) (I.ok.hd hc) (wpAny_bind (wpAny_mono ?_ (λ v s₃ h₃=>wpAny_bind (wpAny_standAt (wpAny_pure h₃))) λ _ _ x=>x))))
 refine wpAny_Call_Name_kw (ld_glob I hg hm ?_ hdb)
 have ha:PA X [e] (tCons te tNil):=pa_cons he pa_nil hs
 refine PySem.W.callWith_K (h₀:=X.base) I.ok.mod.kin hk (wpAny_mono (ha pos pins s σ H (λ vs H1=>match vs with
  | [x]=>∀ a H',Same H1 H'->NewErr X.K c f x a H'->Q a H'
  | _=>False) I h) (λ us s1 ⟨vs,H1,I1,r,q⟩=>⟨I1.kIn,?_⟩) λ _ _ z=>(hn _ _ z).elim) hs hpl
 obtain⟨x,rfl,q⟩:∃ x,vs=[x]/\∀ a H',Same H1 H'->NewErr X.K c f x a H'->Q a H':=by
  match vs,q with
  | [x],q=>exact⟨x,rfl,q⟩
 obtain⟨u,rfl,r1⟩:∃ u,us=[u]/\RelV x u:=by
  cases r with
  | cons r1 r2=>
   cases r2
   exact⟨_,rfl,r1⟩
 obtain⟨hh,g,d,t,os⟩:=s1
 have hC:=I1.kIn _ _ lk
 obtain⟨_,hN,hnn⟩:=hE.own.at I1.kIn
 obtain⟨⟨q',bs',sn',sub',ab',col',dd',l0,l1,l2,l3,l5,hP⟩,hN',hn'⟩:=hE.par.at I1.kIn
 have hfI:∃ oI,hh.get? fI=some oI/\oI.cls=.type "function":=by
  obtain⟨oc,od,_,_,_,_,_,_,osl,_,lf,_⟩:=F.ex
  have z:=beq_iff_eq.mp hfn
  simp only[PySem.W.typeIn,lf,Option.map_some] at z
  exact⟨_,I1.kIn _ _ lf,Option.some.inj z⟩
 obtain⟨oI,hfI,hfc⟩:=hfI
 have T:OwnTail hh bmV (.ref P::bmV):=.own hP hN' (PySem.W.ns_none_of I1.kIn hN' hE.pini) .base
 refine xc_call PySem.F.excBase_ValueError T hC hN (ns_some_of I1.kIn hN hi) hfI hfc (λ h' e hle M=>?_) (by show 1<=sizeLine;decide)
 obtain⟨va,m1,m2,m3⟩:=M.there
 have I2:Inv X pins σ (upd H1 e (Er0 e C va)) ⟨h',g,d,t,os⟩:=I1.laid (t':=t) M.keeps hle ⟨m1,⟨_,m1⟩,λ h1 h2 a b=>b _ a⟩
 have en:H1 e=none:=I1.hok.fresh hle
 have r2:Vals [V.ref e,x] [Value.ref e,u]:=.cons rfl (.cons r1 .nil)
 have F2:=init_ok (P:=X.prog) (w:=X.w) (mg:=X.mg) (base:=X.base) G.fl F S
 refine wpAny_call (codeAny_mono (F2.run _ X.stack _ _ ⟨[.ref e,u],[]⟩ [.ref e,u] [.ref e,x] (λ v H2=>v=.non/\∃ dx,upd H1 e (Er0 e C va) dx=none/\dx≠e/\H2=upd (upd (upd H1 e (Er0 e C va)) dx (.xd [(f,x)])) e (Er1 e C dx va)) E0 ((hr.make C [u] []).mono (by decide)) (I2.env0.make C [u] [])
  (F.binds (ps:=["self",f]) (S.bn _ _) _ _ I2.kIn rfl) r2 ⟨e,C,va,x,c,rfl,upd_same,⟨P,N,NP,hE⟩,λ dx n ne=>⟨rfl,dx,n,ne,rfl⟩⟩) λ r s' hq'=>?_)
 cases r with
 | error e=>exact hq'.elim
 | ok fl=>
  cases fl with
  | next=>exact False.elim hq'
  | brk=>exact False.elim hq'
  | cont=>exact False.elim hq'
  | ret u'=>
   obtain⟨v,H',I3,rv,ev,dx,n,ne,eH⟩:=I2.after hq'
   subst ev eH
   have g3:=(I3.hok e _ upd_same).1
   obtain⟨u3,ok3⟩:=un_word (fs:=X.fs) (ψ:=λ h=>∃ oe vs,h.get? e=some oe/\oe.cls=.ref C/\oe.dict=some dx/\oe.data=.fields vs) I3.hok upd_same ⟨_,_,g3,rfl,rfl,rfl⟩ (λ h1 h2 ⟨oe,vs,a,b⟩ k=>⟨oe,vs,k _ a,b⟩)
   have I4:=I3.un (t':=s'.toks) u3 ok3
   refine⟨rv,e,some dx,va,_,rfl,I3.kIn _ _ lk,g3,hW _ _ ⟨e,pins,σ,_,rfl,nofun,I4,⟨C,dx,upd_same⟩,.inl ⟨rfl,_,_,_,g3,rfl,rfl,rfl⟩,q e _ (λ b o z=>?_) ⟨C,dx,⟨P,N,NP,hE⟩,upd_same,by rw[upd_ne ne,upd_ne ne,upd_same]⟩⟩⟩
   have b1:b≠e:=λ y=>by rw[y,en] at z;cases z
   have b2:b≠dx:=λ y=>by rw[<- y,upd_ne b1,z] at n;cases n
   rw[upd_ne b1,upd_ne b1,upd_ne b2,upd_ne b1];exact z
theorem Un.out {fs:List Addr}{L:Addr}{H H1 H2:Hp}{h h1 h2:Heap}(a:Un fs [] H H1 h h1) (b:Un (L::fs) [] H1 H2 h1 h2) (hL:h.get? L=none):Un fs [] H H2 h h2 where
 keep:=λ c o q n hc hx=>b.keep c o (a.keep c o q n hc hx) (a.free c o q n hx) (λ z=>(List.mem_cons.mp z).elim (λ y=>by rw[y,hL] at q;cases q) hc) hx
 slot:=λ c o q n hc hx=>by
  obtain⟨sl,e⟩:=a.slot c o q n hc hx
  obtain⟨sl',e'⟩:=b.slot c _ e (a.free c o q n hx) (List.mem_cons_of_mem _ hc) hx
  exact⟨sl',e'⟩
 free:=λ c o q n hx=>by
  obtain⟨o',e⟩:=a.there c o q hx
  exact b.free c o' e (a.free c o q n hx) hx
 there:=λ c o q hx=>by
  obtain⟨o',e⟩:=a.there c o q hx
  exact b.there c o' e hx
 tups:=λ c xs q=>b.tups c xs (a.tups c xs q)
 frzs:=λ c o xs q=>b.frzs c o xs (a.frzs c o xs q)
 tbls:=λ c ps q=>by
  obtain⟨m1,e1⟩:=a.tbls c ps q
  obtain⟨m2,e2⟩:=b.tbls c _ e1
  exact⟨m1++m2,by rw[e2,Array.append_assoc]⟩
noncomputable def CXr (P:Program) (w:World):CXT:=λ outer H s E v s'=>∃ e H',v=.ref e/\s'.os=s.os/\AllBare s'.gens/\Un (frs outer) [] H H' s.heap s'.heap/\HOk P w H' s'.heap/\IsErr H' e/\Fly1 s'.heap H' e/\E v none H'
theorem FnOk.never {P:Program}{w:World}{K:PySem.W.Frag}{mg:Str->Option Value}{base:Heap}{k:Nat}{f:Addr}{fd:FuncData}{ps:List Str}{sp:Sp}(F:FnOk P w K mg base (CXr P w) k f fd ps sp):
  FnOk P w K mg base CX0 k f fd ps (λ vs H Q _=>sp vs H Q λ _ _ _=>False):=
 ⟨λ vs H Q E h=>F.len _ _ _ _ h,λ A outer s H args us vs Q E hr he hb hv hs=>codeAny_mono (F.run A outer s H args us vs Q _ hr he hb hv hs) λ r s' hq=>by
  cases r with
  | error e=>
   obtain⟨_,_,_,_,_,_,_,_,_,z⟩:=hq
   exact z.elim
  | ok fl=>cases fl <;> exact hq⟩
section
variable {X:Cx}{k:Nat}{f:Addr}{fd:FuncData}{ps:List Str}{sp:Sp}{x:Str}{p pos:Pos}{e:Expr}{es:List Expr}{t:TA}{pins:List (Addr×Obj)}{σ:St}{H:Hp}{s:Shared}{Q:VK}{Qx:Addr->Hp->Prop}{fl:Bool}
theorem wp_callX (F:FnOk X.prog X.w X.K X.mg X.base (CXr X.prog X.w) k f fd ps sp) (hr:Room k X.A) (hg:Gl X x) (hm:X.mg x=some (.ref f)) (hk:PySem.W.keepIn X.K (.ref f)=true) (hb:Binds X.K fd ps []) (hn:∀ v s,¬ X.xe v s)
  (ha:PA X (e::es) t) (hdb:(x == ("__debug__":Str))=false) (he:starEach (e::es) X.env=(false,eval e X.env)::starEach es X.env) (hpl:(backTo pos (starEach es X.env)).any (·.1)=false)
  {W:Value->Shared->Prop}(hW:∀ v s',XP X pins fl σ Qx v s'->W v s') (I:Inv X pins σ H s) (h:t σ H λ vs H1=>sp vs H1 Q λ v _ H'=>∃ a,v=.ref a/\Qx a H'):
  wpAny (model X.prog X.w) X.A (eval (.Call (.Name x p) (e::es) [] pos) X.env) (EP X pins σ Q) W s:=by
 refine wpAny_Call_Name_kw (ld_glob I hg hm ?_ hdb)
 refine PySem.W.callWith_K (h₀:=X.base) I.ok.mod.kin hk (wpAny_mono (ha pos pins s σ H _ I h) (λ us s1 ⟨vs,H1,I1,r,q⟩=>⟨I1.kIn,?_⟩) λ _ _ z=>(hn _ _ z).elim) he hpl
 have hl:us.length=ps.length:=by rw[<- r.length];exact F.len _ _ _ _ q
 have hbd:=hb s1 us I1.kIn (by rw[List.append_nil];exact hl)
 rw[List.append_nil] at hbd
 refine wpAny_call (codeAny_mono (F.run X.A X.stack s1 H1 ⟨us,[]⟩ us vs Q _ hr I1.env0 hbd r q) λ r s' hq=>?_)
 cases r with
 | error v=>
  obtain⟨a,H',rfl,os,bare,un,hok,ie,f1,a',ea,z⟩:=hq
  cases ea
  exact hW _ _ ⟨a,pins,σ,H',rfl,λ _=>⟨rfl,rfl⟩,I1.call' (ch:=[]) os un hok bare (λ b z=>absurd z (by simp)),ie,.inr f1,z⟩
 | ok fl=>
  cases fl with
  | ret u=>exact I1.after hq
  | next=>exact False.elim hq
  | brk=>exact False.elim hq
  | cont=>exact False.elim hq
end
end L3
namespace L3
open PySem PySem.Spec L2
open PyProof.Rows hiding St
abbrev mkX (X:Cx) (e:Addr):Cx:={ X with A:=X.A.mark (some (.ref e)),calm:=false }
section
variable {X:Cx}{pins:List (Addr×Obj)}{σ σ':St}{H H':Hp}{s s':Shared}{e:Addr}
theorem inv_mark (I:Inv X pins σ H s) (e:Addr):Inv (mkX X e) pins σ H s:=
 ⟨⟨I.ok.mod,I.ok.kind,I.ok.glob,I.ok.blt,I.ok.above,I.ok.inj,I.ok.has,I.ok.cab,nofun,I.ok.frames,I.ok.stk,I.ok.exf,I.ok.bs,I.ok.bsz,I.ok.noex,I.ok.exfs,I.ok.funs,I.ok.frf⟩,I.os,I.bare,I.base,I.loc,I.cell,I.free,I.freeC,I.pin,I.hok,I.len⟩
theorem inv_unmark (I:Inv X pins σ H s) (J:Inv (mkX X e) pins σ' H' s'):Inv X pins σ' H' s':=⟨I.ok,J.os,J.bare,J.base,J.loc,J.cell,J.free,J.freeC,J.pin,J.hok,J.len⟩
theorem wp_try {i j:Nat}{n c:Str}{body:List Stmt}{p1 p2 p3 p4 hpos pos:Pos}{D:Ends}{Qx:Addr->Hp->Prop}(hn:∀ v s,¬ X.xe v s) (hst:X.stack=X.env::X.outer) (hfr:X.env.frame=some X.env.locals)
  (hg:Gl X "PurseError") (hN:X.N.Nodup) (hi:X.N[i]?=some n) (hin:X.env.kindOf n=some .local) (hj:X.N[j]?=some c) (hxj:Loc X.env.scope c) (hfj:X.fn c=true\/X.env.scope.names.lookup c=some .local) (hij:i≠j)
  (hnd:(n == ("__debug__":Str))=false) (hnc:(n == ("__classdict__":Str))=false) (hsw:swapsWith (.Name n p3) (some (.Name c p2)) p4.line X.env=pure false)
  (I:Inv X pins σ H s) (hb:wpAny (model X.prog X.w) X.A (execs body X.env) (SP X pins D) (XP X pins true σ Qx) s)
  (hx:∀ a H',Qx a H'->(∃ cn C dx,ErrC X.K cn C/\H' a=some (ErrO a C dx))/\∀ T,H' T=none->D.nx (((σ.set i (some (.ref a))).set j (some (.ref a))).set i none) (upd H' T (TrO T))):
  wpAny (model X.prog X.w) X.A (exec (.Try body [.ExceptHandler (some (.Name "PurseError" p1)) (some n) [.Assign [.Name c p2] (.Name n p3) p4] hpos] [] [] pos) X.env) (SP X pins D) X.xe s:=by
 refine wpAny_Try_except (wpAny_mono hb (λ f s₁ q=>?_) λ v s₁ ⟨a,pins',σ',H1,ev,es,I1,ie,fly,q⟩=>?_)
 ·cases f with
  | next=>exact wpAny_execs_nil q
  | ret _=>exact q
  | brk=>exact q
  | cont=>exact q
 subst ev
 obtain⟨rfl,rfl⟩:=es rfl
 obtain⟨⟨cn,C,dx,⟨P,N,NP,hE⟩,hEo⟩,q⟩:=hx a H1 q
 have f1:=fly.resolve_left (λ z=>by cases z.1)
 refine note_fly I1 hst hfr ie f1 λ h' T hT un hok f2=>?_
 have I2:Inv X pins' σ' (upd H1 T (TrO T)) { s₁ with heap:=h' }:=I1.call (g':=s₁.gens) (d':=s₁.drawn) (t':=s₁.toks) (ch:=[]) un hok I1.bare (λ b z=>absurd z (by simp))
 have hEo2:upd H1 T (TrO T) a=some (ErrO a C dx):=by rw[upd_ne (ne_of_none hEo hT)];exact hEo
 obtain⟨⟨qn,bs,sn,sub,ab,col,dd,k0,k1,k2,k3,k5,lk⟩,_,_⟩:=id hE.own
 obtain⟨⟨q',bs',sn',sub',ab',col',dd',l0,l1,l2,l3,l5,lp⟩,_,_⟩:=id hE.par
 have mP:X.mg "PurseError"=some (.ref P):=PySem.W.mg_of I.ok.mod.kin I.ok.mod.glob hE.ptop
 have aoe:∃ oe,h'.get? a=some oe/\oe.cls=.ref C:=by
  obtain⟨⟨oe,vs,z1,z2,_⟩,_⟩:=I2.hok a _ hEo2
  exact⟨oe,z1,z2⟩
 refine xf_handle (bm:=.ref P::bmV) (bm':=bmV) (by decide) (by rw[List.contains_cons];simp) (ld_glob (X:=mkX X a) (inv_mark I2 a) hg mP ⟨rfl,I2.kIn _ _ lk,I2.kIn _ _ lp,aoe,?_⟩)
 refine land_fly I2 ⟨C,dx,hEo2⟩ f2 λ h2 un2 hok2=>?_
 have I3:Inv X pins' σ' (upd H1 T (TrO T)) { s₁ with heap:=h2 }:=Inv.call (s:={ s₁ with heap:=h' }) (g':=s₁.gens) (d':=s₁.drawn) (t':=s₁.toks) (ch:=[]) I2 un2 hok2 I1.bare (λ b z=>absurd z (by simp))
 refine store_ok I3 hN hi (.inl hin) (v:=.ref a) rfl (λ s4 I4=>?_) (.inr hin)
 have st:=pss_one (ps_set (X:=mkX X a) (i:=j) (pos:=p4) (pos':=p2) hN hj hxj (pv (X:=mkX X a) i (pos:=p3) hi (.inl hin) hnd hnc) hsw hfj)
 have hl:i < σ'.length:=by rw[I1.len];exact (List.getElem?_eq_some_iff.mp hi).1
 refine wpAny_mono (st pins' s4 _ _ { nx:=fun σ2 H2=>σ2=(σ'.set i (some (.ref a))).set j (some (.ref a))/\H2=upd H1 T (TrO T),rt:=λ _ _=>False } (inv_mark I4 a) ⟨.ref a,by rw[List.getElem?_set_self hl],rfl,rfl⟩) (λ fl s5 q5=>?_) λ _ _ z=>(hn _ _ z).elim
 cases fl with
 | next=>
  obtain⟨σ5,H5,I5,rfl,rfl⟩:=q5
  exact goes_ok (inv_unmark I I5) hN hi hin λ s6 I6=>⟨_,_,I6,q T hT⟩
 | ret _=>obtain⟨_,_,_,_,_,z⟩:=q5;exact z.elim
 | brk=>obtain⟨_,_,_,z⟩:=q5;exact z.elim
 | cont=>obtain⟨_,_,_,z⟩:=q5;exact z.elim
end
end L3
namespace L3
open PySem PySem.Spec L2
open PyProof.Rows hiding St
noncomputable def isErrD:D->Bool
 | .err _ _ _=>true
 | _=>false
noncomputable def dnR (K:PySem.W.Frag) (H:Hp) (R:VK) (Q:Addr->Hp->Prop):DK:=λ d S'=>(isErrD d=false->dnK K H R d S')/\(isErrD d=true->∀ a H',RepD K H' d (.ref a)->Ext H H'->RepH K H' S'->Q a H')
theorem dnR.ext {K:PySem.W.Frag}{H H':Hp}{R:VK}{Q:Addr->Hp->Prop}(e:Ext H H') {d:D}{S:SS}(h:dnR K H R Q d S):dnR K H' R Q d S:=⟨λ z=>dnK.ext e (h.1 z),λ z a H2 r x q=>h.2 z a H2 r (e.trans x) q⟩
noncomputable def dnX (K:PySem.W.Frag) (H:Hp) (D:Ends) (Q:Addr->Hp->Prop):EndsD:=⟨dnS K H D.nx,dnR K H D.rt Q,dnS K H D.bk,dnS K H D.ct⟩
theorem dnX.ext {K:PySem.W.Frag}{H H':Hp}{D:Ends}{Q:Addr->Hp->Prop}(e:Ext H H'):(dnX K H D Q).Le (dnX K H' D Q):=⟨λ _ _ h=>dnS.ext e h,λ _ _ h=>dnR.ext e h,λ _ _ h=>dnS.ext e h,λ _ _ h=>dnS.ext e h⟩
def upX (K:PySem.W.Frag) (t:TDS) (Q:Addr->Hp->Prop):TS:=λ D σ H=>∃ δ S,RepSt K H δ σ/\RepH K H S/\t (dnX K H D Q) δ S
structure WOk (X:Cx) (pins:List (Addr×Obj)) (σ:St) (fl:Bool) (Q:Addr->Hp->Prop) (W:Value->Shared->Prop):Prop where
 xp:∀ v s',XP X pins fl σ Q v s'->W v s'
 own:fl=false->PassesOwn (model X.prog X.w) X.A X.env W
theorem WOk.any {X:Cx}{pins pins':List (Addr×Obj)}{σ σ':St}{Q:Addr->Hp->Prop}{W:Value->Shared->Prop}(h:WOk X pins σ false Q W):WOk X pins' σ' false Q W:=
 ⟨λ v s' ⟨e,p,q,H',h1,_,h3⟩=>h.xp v s' ⟨e,p,q,H',h1,nofun,h3⟩,h.own⟩
structure PDX1 (X:Cx) (fl:Bool) (st:Stmt) (t:TDS):Prop where
 mo:MoS t
 px:∀ pins s σ H D Q W,WOk X pins σ fl Q W->Inv X pins σ H s->upX X.K t Q D σ H->wpAny (model X.prog X.w) X.A (exec st X.env) (SP X pins D) W s
structure PDX (X:Cx) (fl:Bool) (sts:List Stmt) (t:TDS):Prop where
 mo:MoS t
 px:∀ pins s σ H D Q W,WOk X pins σ fl Q W->Inv X pins σ H s->upX X.K t Q D σ H->wpAny (model X.prog X.w) X.A (execs sts X.env) (SP X pins D) W s
section
variable {X:Cx}{fl:Bool}{st:Stmt}{rest:List Stmt}{t u:TDS}{pos:Pos}{e:Expr}{te:TDE}
theorem pdx_of (h:PDS X st t) (ht:∀ E δ S,t E δ S->t { E with rt:=λ _ _=>False } δ S:=by exact λ _ _ _ h=>h) (hn:∀ v s,¬ X.xe v s:=by exact λ _ _ z=>z):PDX1 X fl st t:=by
 refine⟨h.mo,λ pins s σ H D Q W hW I ⟨δ,S,r1,r2,z⟩=>wpAny_mono (h.ps pins s σ H D I ⟨δ,S,r1,r2,h.mo { dnX X.K H D Q with rt:=λ _ _=>False } _ δ S ⟨λ _ _ q=>q,λ _ _ q=>q.elim,λ _ _ q=>q,λ _ _ q=>q⟩ (ht _ δ S z)⟩) (λ _ _ q=>q) λ _ _ z=>(hn _ _ z).elim⟩
theorem pdx_nil:PDX X fl [] dNext:=⟨λ _ _ _ _ hE h=>hE.nx _ _ h,λ pins s σ H D Q W hW I ⟨δ,S,r1,r2,z⟩=>wpAny_execs_nil ⟨σ,H,I,z σ H r1 (.refl H) r2⟩⟩
theorem pdx_one (h:PDX1 X fl st t):PDX X fl [st] t:=⟨h.mo,λ pins s σ H D Q W hW I hu=>by
 refine wpAny_execs_cons (thn (h.px pins s σ H D Q W hW I hu) λ f s1 q=>?_)
 cases f with
 | next=>exact wpAny_execs_nil q
 | ret v=>exact q
 | brk=>exact q
 | cont=>exact q⟩
theorem pdx_cons (h:PDX1 X false st t) (h':PDX X false rest u):PDX X false (st::rest) (dSeq t u):=⟨dSeq.mo h.mo h'.mo,λ pins s σ H D Q W hW I ⟨δ,S,r1,r2,z⟩=>by
 refine wpAny_execs_cons (thn (h.px pins s σ H { D with nx:=upX X.K u Q D } Q W hW I ⟨δ,S,r1,r2,h.mo { dnX X.K H D Q with nx:=u (dnX X.K H D Q) } _ δ S ⟨fun δ' S' q σ' H' q1 q2 q3=>⟨δ',S',q1,q3,h'.mo _ _ δ' S' (dnX.ext q2) q⟩,λ _ _ q=>q,λ _ _ q=>q,λ _ _ q=>q⟩ z⟩) λ f s1 q=>?_)
 cases f with
 | next=>
  obtain⟨σ',H',I',q⟩:=q
  exact h'.px pins s1 σ' H' D Q W hW.any I' q
 | ret v=>exact q
 | brk=>exact q
 | cont=>exact q⟩
theorem pdx_if {c:Expr}{p q:List Stmt}{tc:TDT}(hc:PDT X c tc) (h:PDX X fl p t) (h':PDX X fl q u) (hn:∀ v s,¬ X.xe v s:=by exact λ _ _ z=>z):PDX1 X fl (.If c p q pos) (dIfS tc t u):=by
 refine⟨λ E E' δ S hE z=>hc.mo δ S _ _ (λ k S1 z=>ite_imp (h.mo _ _ δ S1 hE) (h'.mo _ _ δ S1 hE) z) z,λ pins s σ H D Q W hW I ⟨δ,S,r1,r2,z⟩=>?_⟩
 refine wpAny_If (wpAny_mono (hc.pt pins s σ H (λ k H1=>if k=true then upX X.K t Q D σ H1 else upX X.K u Q D σ H1) I (upT.go hc.mo r1 r2 z λ k S1 H1 h1 e1 p1=>ite_imp (λ z=>?_) (λ z=>?_) h1)) (λ k s1 ⟨H1,I1,q1⟩=>?_) λ _ _ z=>(hn _ _ z).elim)
 ·exact⟨δ,S1,r1.ext e1,p1,h.mo _ _ δ S1 (dnX.ext e1) z⟩
 ·exact⟨δ,S1,r1.ext e1,p1,h'.mo _ _ δ S1 (dnX.ext e1) z⟩
 ·cases k with
  | true=>exact h.px pins s1 σ H1 D Q W hW I1 q1
  | false=>exact h'.px pins s1 σ H1 D Q W hW I1 q1
def dRetG (te:TDE):TDS:=λ E δ S=>te δ S λ d S1=>isErrD d=false/\E.rt d S1
theorem pdx_ret (he:PD X e te) (hn:∀ v s,¬ X.xe v s:=by exact λ _ _ z=>z):PDX1 X fl (.Return (some e) pos) (dRetG te):=by
 refine⟨λ E E' δ S hE z=>he.mo δ S _ _ (λ _ _ q=>⟨q.1,hE.rt _ _ q.2⟩) z,λ pins s σ H D Q W hW I ⟨δ,S,r1,r2,z⟩=>?_⟩
 exact wpAny_Return_some (wpAny_mono (he.pe pins s σ H D.rt I (upE.go he.mo r1 r2 z λ x S1 v H1 h1 q1 e1 p1=>h1.2.1 h1.1 v H1 q1 e1 p1)) (λ v s1 ⟨x,H1,I1,r1,q1⟩=>⟨x,σ,H1,I1,r1,q1⟩) λ _ _ z=>(hn _ _ z).elim)
theorem Ext.same {H H':Hp}(e:Same H H'):Ext H H':=⟨λ b xs q=>e _ _ q,λ b o u q=>e _ _ q,λ b u q=>e _ _ q,λ b u q=>e _ _ q⟩
def dRaise (c f:Str) (te:TDE):TDS:=λ E δ S=>te δ S λ d S1=>E.rt (.err c f d) S1
theorem pdx_raise {c f:Str}{si:Stmt}{p cpos:Pos}{k:Nat}(G:InF X.K X.mg c f si) (Sh:InS f si) (hr:Room k X.A) (he:PD X e te) (hk:2<=k:=by decide) (hg:Gl X c:=by rfl) (hc:X.calm=true:=by rfl) (hdb:(c == ("__debug__":Str))=false:=by decide)
  (hs:starEach [e] X.env=(false,eval e X.env)::starEach [] X.env:=by rfl) (hpl:(backTo cpos (starEach [] X.env)).any (·.1)=false:=by rfl) (hn:∀ v s,¬ X.xe v s:=by exact λ _ _ z=>z):
  PDX1 X false (.Raise (some (.Call (.Name c p) [e] [] cpos)) none pos) (dRaise c f te):=by
 refine⟨λ E E' δ S hE z=>he.mo δ S _ _ (λ _ _ q=>hE.rt _ _ q) z,λ pins s σ H D Q W hW I ⟨δ,S,r1,r2,z⟩=>?_⟩
 refine wp_raise G Sh (hr.mono hk) hc hn hg hdb he.pe hs hpl hW.xp I (upE.go he.mo r1 r2 z λ x S1 v H1 h1 q1 e1 p1 a H' sm ⟨C,dx,hE,h2,h3⟩=>?_)
 refine h1.2 rfl a H' ?_ (e1.trans (.same sm)) (p1.same sm)
 simp only[RepD]
 exact⟨a,C,dx,v,rfl,⟨hE,h2,h3⟩,RepD.ext (.same sm) x q1⟩
end
noncomputable def upPX (K:PySem.W.Frag) (sp:SpD):Sp:=λ vs H Q E=>∃ ds S,RepDs K H ds vs/\RepH K H S/\sp ds S (dnR K H Q λ a H'=>E (.ref a) none H')
structure FDX (P:Program) (w:World) (K:PySem.W.Frag) (mg:Str->Option Value) (base:Heap) (x:Str) (k:Nat) (ps:List Str) (sp:SpD):Prop where
 ex:∃ (f:Addr) (fd:FuncData),FnOk P w K mg base (CXr P w) k f fd ps (upPX K sp)/\mg x=some (.ref f)/\PySem.W.keepIn K (.ref f)=true/\Binds K fd ps []
 mo:MoP sp
def noX (sp:SpD):SpD:=λ ds S Q=>sp ds S λ d S'=>isErrD d=false/\Q d S'
theorem noX.mo {sp:SpD}(h:MoP sp):MoP (noX sp):=λ ds S Q Q' hq z=>h ds S _ _ (λ d S' q=>⟨q.1,hq _ _ q.2⟩) z
theorem FDX.fd {P:Program}{w:World}{K:PySem.W.Frag}{mg:Str->Option Value}{base:Heap}{x:Str}{k:Nat}{ps:List Str}{sp:SpD}(F:FDX P w K mg base x k ps sp):FD P w K mg base x k ps (noX sp):=by
 obtain⟨⟨f,fd,h1,h2⟩,hm⟩:=F
 refine⟨⟨f,fd,(FnOk.never h1).imp λ vs H Q E ⟨ds,S,r1,r2,z⟩=>⟨ds,S,r1,r2,hm ds S _ _ (λ d S' q=>⟨λ _=>q.2,λ z=>?_⟩) z⟩,h2⟩,noX.mo hm⟩
 rw[q.1] at z;cases z
section
variable {X:Cx}{fl:Bool}{pos cpos p:Pos}{e:Expr}{es:List Expr}{tA:TDA}{x:Str}{k:Nat}{ps:List Str}{sp:SpD}
theorem wp_callD {pins:List (Addr×Obj)}{s:Shared}{σ:St}{H:Hp}{Q:Addr->Hp->Prop}{W:Value->Shared->Prop}{R:DK}{RV:VK}{δ:StD}{S:SS}(F:FDX X.prog X.w X.K X.mg X.base x k ps sp) (hr:Room k X.A) (ha:PDA X (e::es) tA) (hg:Gl X x) (hdb:(x == ("__debug__":Str))=false)
  (he:starEach (e::es) X.env=(false,eval e X.env)::starEach es X.env) (hpl:(backTo cpos (starEach es X.env)).any (·.1)=false) (hn:∀ v s,¬ X.xe v s) (hW:WOk X pins σ fl Q W) (I:Inv X pins σ H s) (r1:RepSt X.K H δ σ) (r2:RepH X.K H S)
  (z:tA δ S λ ds S1=>sp ds S1 R) (hR:∀ d S',R d S'->dnR X.K H RV Q d S'):
  wpAny (model X.prog X.w) X.A (eval (.Call (.Name x p) (e::es) [] cpos) X.env) (EP X pins σ RV) W s:=by
 obtain⟨⟨f,fd,h1,h2,h3,h4⟩,hm⟩:=F
 refine wp_callX (Qx:=Q) h1 hr hg h2 h3 h4 hn ha.pa hdb he hpl hW.xp I (upA.go ha.mo r1 r2 z λ ds S1 xs H1 z1 q1 e1 p1=>⟨ds,S1,q1,p1,hm ds S1 _ _ (λ d S' q=>?_) z1⟩)
 have q':=dnR.ext e1 (hR d S' q)
 exact⟨q'.1,λ y a H' c1 c2 c3=>⟨a,rfl,q'.2 y a H' c1 c2 c3⟩⟩
def dXDrop (sp:SpD) (tA:TDA):TDS:=λ E δ S=>tA δ S λ ds S1=>sp ds S1 λ d S2=>(isErrD d=true->E.rt d S2)/\(isErrD d=false->E.nx δ S2)
def dXAsg (i:Nat) (sp:SpD) (tA:TDA):TDS:=λ E δ S=>tA δ S λ ds S1=>sp ds S1 λ d S2=>(isErrD d=true->E.rt d S2)/\(isErrD d=false->E.nx (δ.set i (some d)) S2)
variable (F:FDX X.prog X.w X.K X.mg X.base x k ps sp)
include F
theorem pdx_drop {k':Nat}(hr:Room k' X.A) (ha:PDA X (e::es) tA) (hk:k<=k':=by decide) (hg:Gl X x:=by rfl) (hdb:(x == ("__debug__":Str))=false:=by decide)
  (he:starEach (e::es) X.env=(false,eval e X.env)::starEach es X.env:=by rfl) (hpl:(backTo cpos (starEach es X.env)).any (·.1)=false:=by rfl) (hn:∀ v s,¬ X.xe v s:=by exact λ _ _ z=>z) (hs:swapsWith (.Call (.Name x p) (e::es) [] cpos) none pos.line X.env=pure false:=by rfl):
  PDX1 X fl (.Expr (.Call (.Name x p) (e::es) [] cpos) pos) (dXDrop sp tA):=by
 refine⟨λ E E' δ S hE z=>ha.mo δ S _ _ (λ ds S1 z=>F.mo ds S1 _ _ (λ d S2 q=>⟨λ y=>hE.rt _ _ (q.1 y),λ y=>hE.nx _ _ (q.2 y)⟩) z) z,λ pins s σ H D Q W hW I ⟨δ,S,r1,r2,z⟩=>?_⟩
 refine wpAny_Expr_any (thn (wp_callD (RV:=λ _ H'=>D.nx σ H') F (hr.mono hk) ha hg hdb he hpl hn hW I r1 r2 z λ d S' q=>⟨λ y v H' a1 a2 a3=>q.2 y σ H' (r1.ext a2) a2 a3,λ y=>(q.1 y).2 y⟩) λ v s1 ⟨x,H1,I1,_,q1⟩=>⟨σ,H1,I1,q1⟩) I.quiet hs
theorem pdx_asg {k' i:Nat}{y:Str}{py:Pos}(hN:X.N.Nodup) (hr:Room k' X.A) (ha:PDA X (e::es) tA) (hi:X.N[i]?=some y:=by rfl) (hx:Loc X.env.scope y:=by first | exact Or.inl rfl | exact Or.inr rfl) (hf:X.fn y=true\/X.env.scope.names.lookup y=some .local:=by first | exact .inl rfl | exact .inr rfl | assumption) (hk:k<=k':=by decide) (hg:Gl X x:=by rfl) (hdb:(x == ("__debug__":Str))=false:=by decide)
  (he:starEach (e::es) X.env=(false,eval e X.env)::starEach es X.env:=by rfl) (hpl:(backTo cpos (starEach es X.env)).any (·.1)=false:=by rfl) (hn:∀ v s,¬ X.xe v s:=by exact λ _ _ z=>z) (hs:swapsWith (.Call (.Name x p) (e::es) [] cpos) (some (.Name y py)) pos.line X.env=pure false:=by rfl):
  PDX1 X fl (.Assign [.Name y py] (.Call (.Name x p) (e::es) [] cpos) pos) (dXAsg i sp tA):=by
 refine⟨λ E E' δ S hE z=>ha.mo δ S _ _ (λ ds S1 z=>F.mo ds S1 _ _ (λ d S2 q=>⟨λ y=>hE.rt _ _ (q.1 y),λ y=>hE.nx _ _ (q.2 y)⟩) z) z,λ pins s σ H D Q W hW I ⟨δ,S,r1,r2,z⟩=>?_⟩
 refine wpAny_Assign_Name (thn (wp_callD (RV:=λ v H'=>D.nx (σ.set i (some v)) H') F (hr.mono hk) ha hg hdb he hpl hn hW I r1 r2 z λ d S' q=>⟨λ y v H' a1 a2 a3=>q.2 y _ H' ((r1.ext a2).set i a1) a2 a3,λ y=>(q.1 y).2 y⟩) λ v s1 ⟨x,H1,I1,r,q1⟩=>?_) hs
 exact store_ok I1 hN hi hx r (λ s2 I2=>⟨_,H1,I2,q1⟩) hf
end
section
variable {P:Program}{w:World}{K:PySem.W.Frag}{mg:Str->Option Value}{base:Heap}
theorem fnX {x qual:Str}{st:Stmt}{f:Addr}{fd:FuncData}{N ps:List Str}{k:Nat}{sp:SpD}(F:Fun K x qual st f fd) (Sc:FnScope N ps (defScope st)) (len:∀ ds S Q,sp ds S Q->ds.length=ps.length)
  (hbody:∀ (cdv:Value) (A:Around) (outer:List Env) (s:Shared) (H:Hp) (E:XK),Room k (A.deeper (envOfC qual (defScope st) s.heap.objs.size f cdv))->
   ∃ t,PDX (cxOf CX0 P w K mg base N qual (defScope st) f cdv A outer s H E).nox false (defBody st) t/\∀ ds S Q,sp ds S Q->t { nx:=λ _ S'=>Q .non S',rt:=Q } (startD N ds) S):
  FnOk P w K mg base (CXr P w) (k+1) f fd ps (upPX K sp):=by
 obtain⟨oc,od,kV,doc,pm,an,cdv,ct,osl,rfl,lk,hcd⟩:=F.ex
 refine fn_of lk hcd Sc (λ vs H Q E ⟨ds,S,r1,_,z⟩=>by rw[<- r1.length];exact len _ _ _ z) λ A outer s H vs Q E hr hsp=>⟨λ D σ H'=>D={ nx:=λ _ H'=>Q .non H',rt:=Q }/\σ=start N vs/\H'=H,λ pins s1 σ H' D I ⟨e1,e2,e3⟩=>?_,rfl,rfl,rfl⟩
 subst e1 e2 e3
 obtain⟨t,hp,ht⟩:=hbody cdv A outer s H' E hr
 obtain⟨ds,S,r1,r2,z⟩:=hsp
 have cv:∀ {pins:List (Addr×Obj)}{σ':St}{H'':Hp}{s':Shared},Inv (cxOf CX0 P w K mg base N qual (defScope st) f cdv A outer s H' E).nox pins σ' H'' s'->Inv (cxOf (CXr P w) P w K mg base N qual (defScope st) f cdv A outer s H' E) pins σ' H'' s':=λ J=>
  ⟨I.ok,J.os,J.bare,J.base,J.loc,J.cell,J.free,J.freeC,J.pin,J.hok,J.len⟩
 have ok0:(cxOf CX0 P w K mg base N qual (defScope st) f cdv A outer s H' E).nox.Ok:=⟨I.ok.mod,I.ok.kind,I.ok.glob,I.ok.blt,I.ok.above,I.ok.inj,I.ok.has,I.ok.cab,I.ok.hd,I.ok.frames,I.ok.stk,I.ok.exf,I.ok.bs,I.ok.bsz,I.ok.noex,I.ok.exfs,I.ok.funs,I.ok.frf⟩
 have I0:Inv (cxOf CX0 P w K mg base N qual (defScope st) f cdv A outer s H' E).nox pins (start N vs) H' s1:=⟨ok0,I.os,I.bare,I.base,I.loc,I.cell,I.free,I.freeC,I.pin,I.hok,I.len⟩
 refine wpAny_mono (hp.px pins s1 (start N vs) H' { nx:=λ _ H'=>Q .non H',rt:=Q } (λ e H2=>∀ T,H2 T=none->E (.ref e) none (upd H2 T (TrO T))) (cxOf (CXr P w) P w K mg base N qual (defScope st) f cdv A outer s H' E).xe ⟨λ v s' ⟨e,pins',σ',H2,ev,_,J,ie,hf,q⟩=>?_,λ _=>PassesOwn.leaving⟩ I0
  ⟨startD N ds,S,RepSt.init r1,r2,hp.mo { nx:=λ _ S'=>dnR K H' Q (λ a H2=>E (.ref a) none H2) .non S',rt:=dnR K H' Q λ a H2=>E (.ref a) none H2 } _ _ S ⟨fun δ S' q σ2 H2 a1 a2 a3=>q.1 rfl .non H2 (by simp only[RepD]) a2 a3,λ d S' q=>⟨q.1,λ y a H2 a1 a2 a3 T hT=>?_⟩,λ _ _ q=>q.elim,λ _ _ q=>q.elim⟩ (ht ds S _ z)⟩) (λ fl s' q=>?_) λ _ _ z=>z
 ·subst ev
  have J':=cv J
  refine leave_fly J' rfl rfl ie (hf.imp And.right id) λ h' T hT un hok f1=>?_
  obtain⟨C,dx,hE⟩:=ie
  exact⟨e,_,rfl,J'.os,J'.bare,Un.out J'.base un (Heap.get?_none_of_le (Nat.le_refl _)),hok,⟨C,dx,by rw[upd_ne (ne_of_none hE hT)];exact hE⟩,f1,q T hT⟩
 ·have xT:Ext H2 (upd H2 T (TrO T)):=.new hT _
  exact q.2 y a _ (RepD.ext xT d a1) (a2.trans xT) (a3.keep xT λ b u o _ c=>by rw[upd_ne (ne_of_none c hT)];exact c)
 ·cases fl with
  | next=>obtain⟨σ',H',J,q⟩:=q;exact⟨σ',H',cv J,q⟩
  | brk=>obtain⟨σ',H',J,q⟩:=q;exact⟨σ',H',cv J,q⟩
  | cont=>obtain⟨σ',H',J,q⟩:=q;exact⟨σ',H',cv J,q⟩
  | ret u=>obtain⟨v,σ',H',J,r,q⟩:=q;exact⟨v,σ',H',cv J,r,q⟩
end
end L3
namespace L3
open PySem PySem.Spec L2
open PyProof.Rows hiding St
theorem RepSt.hole {K:PySem.W.Frag}{H:Hp}{δ:StD}{σ:St}(i:Nat) (r:RepSt K H δ σ):RepSt K H (δ.set i none) (σ.set i none):=by
 refine⟨by rw[List.length_set,List.length_set];exact r.1,λ j c hc=>?_⟩
 rw[List.getElem?_set] at hc ⊢
 by_cases hj:i=j
 ·subst hj
  rw[if_pos rfl] at hc
  split at hc <;> cases hc
 ·rw[if_neg hj] at hc ⊢
  exact r.2 j c hc
def dTry (i j:Nat) (t:TDS):TDS:=λ E δ S=>t ⟨E.nx,λ d S'=>isErrD d=true/\E.nx (((δ.set i (some d)).set j (some d)).set i none) S',λ _ _=>False,λ _ _=>False⟩ δ S
theorem pds_try {X:Cx}{t:TDS}(i j:Nat) {n c:Str}{body:List Stmt}{p1 p2 p3 p4 hpos pos:Pos}(hN:X.N.Nodup) (hb:PDX X true body t) (hij:i≠j:=by decide) (hi:X.N[i]?=some n:=by rfl) (hj:X.N[j]?=some c:=by rfl)
  (hg:Gl X "PurseError":=by rfl) (hin:X.env.kindOf n=some .local:=by rfl) (hxj:Loc X.env.scope c:=by first | exact Or.inl rfl | exact Or.inr rfl) (hfj:X.fn c=true\/X.env.scope.names.lookup c=some .local:=by first | exact .inl rfl | exact .inr rfl)
  (hnd:(n == ("__debug__":Str))=false:=by decide) (hnc:(n == ("__classdict__":Str))=false:=by decide) (hsw:swapsWith (.Name n p3) (some (.Name c p2)) p4.line X.env=pure false:=by rfl)
  (hst:X.stack=X.env::X.outer:=by rfl) (hfr:X.env.frame=some X.env.locals:=by rfl) (hn:∀ v s,¬ X.xe v s:=by exact λ _ _ z=>z):
  PDS X (.Try body [.ExceptHandler (some (.Name "PurseError" p1)) (some n) [.Assign [.Name c p2] (.Name n p3) p4] hpos] [] [] pos) (dTry i j t):=by
 refine⟨λ E E' δ S hE z=>hb.mo ⟨E.nx,λ d S'=>isErrD d=true/\E.nx (((δ.set i (some d)).set j (some d)).set i none) S',λ _ _=>False,λ _ _=>False⟩ ⟨E'.nx,λ d S'=>isErrD d=true/\E'.nx (((δ.set i (some d)).set j (some d)).set i none) S',λ _ _=>False,λ _ _=>False⟩ δ S ⟨hE.nx,λ d S' q=>⟨q.1,hE.nx _ _ q.2⟩,λ _ _ q=>q,λ _ _ q=>q⟩ z,λ pins s σ H D I ⟨δ,S,r1,r2,z⟩=>?_⟩
 refine wp_try (Qx:=λ a H'=>∃ d S',isErrD d=true/\RepD X.K H' d (.ref a)/\Ext H H'/\RepH X.K H' S'/\(dnE X.K H D).nx (((δ.set i (some d)).set j (some d)).set i none) S') hn hst hfr hg hN hi hin hj hxj hfj hij hnd hnc hsw I
  (hb.px pins s σ H D _ _ ⟨λ _ _ q=>q,nofun⟩ I ⟨δ,S,r1,r2,hb.mo ⟨(dnE X.K H D).nx,λ d S'=>isErrD d=true/\(dnE X.K H D).nx (((δ.set i (some d)).set j (some d)).set i none) S',λ _ _=>False,λ _ _=>False⟩ _ δ S ⟨λ _ _ q=>q,λ d S' q=>⟨λ y=>?_,λ y a H' a1 a2 a3=>⟨d,S',y,a1,a2,a3,q.2⟩⟩,λ _ _ q=>q.elim,λ _ _ q=>q.elim⟩ z⟩) λ a H' ⟨d,S',hd,a1,a2,a3,q⟩=>⟨?_,λ T hT=>?_⟩
 ·rw[q.1] at y;cases y
 ·cases d with
  | err cn f x=>
   simp only[RepD] at a1
   obtain⟨e,C,dx,w,e1,⟨h1,h2,h3⟩,_⟩:=a1
   cases e1
   exact⟨cn,C,dx,h1,h2⟩
  | non=>cases hd
  | bl _=>cases hd
  | int _=>cases hd
  | str _=>cases hd
  | tup _=>cases hd
  | rol _=>cases hd
  | ref _=>cases hd
 ·have xT:Ext H' (upd H' T (TrO T)):=.new hT _
  have rd:=RepD.ext xT d a1
  exact q _ _ ((((r1.ext (a2.trans xT)).set i rd).set j rd).hole i) (a2.trans xT) (a3.keep xT λ b u o _ c=>by rw[upd_ne (ne_of_none c hT)];exact c)
end L3
namespace L5
open PySem PySem.Spec L2 L3
open PyProof.Rows hiding St
noncomputable def isErrT:T->Bool
 | .err _ _ _=>true
 | _=>false
@[simp] theorem isErrT_err (c f:Str) (t:T):isErrT (.err c f t)=true:=rfl
@[simp] theorem isErrT_non:isErrT .non=false:=rfl
@[simp] theorem isErrT_bl (b:Bool):isErrT (.bl b)=false:=rfl
@[simp] theorem isErrT_int (b:Int):isErrT (.int b)=false:=rfl
@[simp] theorem isErrT_str (b:Str):isErrT (.str b)=false:=rfl
@[simp] theorem isErrT_tup (b:List T):isErrT (.tup b)=false:=rfl
@[simp] theorem isErrT_lst (b:List T):isErrT (.lst b)=false:=rfl
@[simp] theorem isErrT_dic:isErrT .dic=false:=rfl
theorem sn_errB {S:SS}{y:T}{d:D}(h:Sn S y d):isErrD d=isErrT y:=by
 cases y with
 | non=>simp only[Sn] at h;subst h;rfl
 | bl _=>simp only[Sn] at h;subst h;rfl
 | int _=>simp only[Sn] at h;subst h;rfl
 | str _=>simp only[Sn] at h;subst h;rfl
 | tup _=>simp only[Sn] at h;obtain⟨_,h,_⟩:=h;subst h;rfl
 | lst _=>
  simp only[Sn] at h
  obtain⟨_,h | ⟨_,h,_⟩,_⟩:=h
  ·rw[h.1];rfl
  ·subst h;rfl
 | dic=>simp only[Sn] at h;obtain⟨_,_,⟨h,_⟩,_⟩:=h;subst h;rfl
 | err _ _ _=>simp only[Sn] at h;obtain⟨_,h,_⟩:=h;subst h;rfl
theorem err_nl {y:T}(h:isErrT y=true):∀ ts,y≠.lst ts:=λ ts e=>by subst e;cases h
@[simp] noncomputable def rzS (c f:Str) (g:Ev->Option T):Sm:=fun ρ=>(g ρ).map λ y=>.rt (.err c f y)
@[simp] noncomputable def retG (g:Ev->Option T):Sm:=fun ρ=>(g ρ).bind λ y=>if isErrT y=true then none else some (.rt y)
@[simp] noncomputable def xdrpS (F:List T->Option T) (g:Ev->Option (List T)):Sm:=fun ρ=>(g ρ).bind λ ys=>(F ys).map λ y=>if isErrT y=true then .rt y else .nx ρ
@[simp] noncomputable def xasgS (i:Nat) (F:List T->Option T) (g:Ev->Option (List T)):Sm:=fun ρ=>(g ρ).bind λ ys=>(F ys).map λ y=>if isErrT y=true then .rt y else .nx (ρ.set i (some (.im y)))
@[simp] noncomputable def tryS (i j:Nat) (g:Sm):Sm:=fun ρ=>(g ρ).bind λ o=>match o with
 | .nx ρ'=>some (.nx ρ')
 | .rt y=>if isErrT y=true then some (.nx (((ρ.set i none).set j (some (.im y))).set i none)) else none
 | _=>none
@[simp] noncomputable def noE (F:List T->Option T):List T->Option T:=λ ys=>(F ys).bind λ y=>if isErrT y=true then none else some y
section
variable {R:Rk}{g h:Sm}{t u:TDS}{f:Ev->Option T}{te:TDE}{S0 S:SS}{Z0 Z:Addr->Prop}{δ:StD}{ρ:Ev}
theorem oks_rz [Cl R] {c x:Str}(hf:OkE f te):OkS R (rzS c x f) (dRaise c x te):=λ S0 Z0 S Z δ ρ o E F e P=>by
 obtain⟨y,e1,rfl⟩:=Option.map_eq_some_iff.mp e
 refine hf S Z δ ρ y _ F.er e1 λ d S1 s1 r1=>P _ S1 (F.sx.trans s1) (Cl.of (λ _=>nofun) ?_)
 simp only[Sn]
 exact⟨d,rfl,Sn.sx (hid_le F.zz) y r1⟩
theorem oks_retG [Sr R] (hf:OkX R f te):OkS R (retG f) (dRetG te):=λ S0 Z0 S Z δ ρ o E F e P=>by
 obtain⟨y,e1,e2⟩:=Option.bind_eq_some_iff.mp e
 split at e2
 ·cases e2
 ·rename_i hy
  cases e2
  exact hf S Z δ ρ y _ F.er e1 λ d S1 s1 r1=>⟨by rw[sn_errB (Sr.sn r1)];simpa using hy,P d S1 (F.sx.trans s1) (Lo.lo F.sx F.zz r1)⟩
theorem oks_retOG (i:Nat):OkS RkF (retO i) (dRetG (dVar i)):=λ S0 Z0 S Z δ ρ o E F e P=>by
 have q:=oks_retO i S0 Z0 S Z δ ρ o E F e P
 unfold retO at e
 split at e
 ·rename_i ts h
  obtain⟨p,ob,h1,_⟩:=F.er.ow i _ h
  have q':dVar i δ S E.rt:=q
  show dVar i δ S λ d S1=>isErrD d=false/\E.rt d S1
  unfold dVar at q' ⊢
  rw[h1] at q' ⊢
  exact⟨rfl,q'⟩
 ·cases e
def PostF (S0:SS) (Z0:Addr->Prop) (S:SS) (Z:Addr->Prop) (o:Out) (E:EndsD):Prop:=match o with
 | .nx ρ'=>∀ S' Z' δ',FR S0 Z0 S' Z' δ' ρ'->E.nx δ' S'
 | .rt y=>isErrT y=true->∀ d S',Sx S S'->Sn (hid S' Z) y d->E.rt d S'
 | _=>True
def OkFl (g:Sm) (t:TDS):Prop:=∀ S0 Z0 S Z δ ρ o E,FR S0 Z0 S Z δ ρ->g ρ=some o->PostF S0 Z0 S Z o E->t E δ S
theorem OkFl.s [Cl R] (h:OkFl g t):OkS R g t:=λ S0 Z0 S Z δ ρ o E F e P=>by
 refine h S0 Z0 S Z δ ρ o E F e ?_
 cases o with
 | nx ρ'=>exact P
 | rt y=>exact λ hy d S' s r=>P d S' (F.sx.trans s) (Cl.of (err_nl hy) (Sn.sx (hid_le F.zz) y r))
 | bk _=>trivial
 | ct _=>trivial
theorem okfl_drp [Sr R] {F:List T->Option T}{ga:Ev->Option (List T)}{ua:TDA}(h:OkAV ga ua):OkFl (xdrpS F ga) (dXDrop (spF R F) ua):=λ S0 Z0 S Z δ ρ o E Fr e P=>by
 obtain⟨ys,e1,e2⟩:=Option.bind_eq_some_iff.mp e
 obtain⟨y,e3,rfl⟩:=Option.map_eq_some_iff.mp e2
 refine h S Z δ ρ ys _ Fr.er e1 λ ds S1 s1 r1=>⟨Z,ys,y,(Fr.er.grow s1).zd,r1,e3,λ d S2 s2 r2=>⟨λ he=>?_,λ he=>?_⟩⟩
 ·rw[sn_errB (Sr.sn r2)] at he
  rw[if_pos he] at P
  exact P he d S2 (s1.trans s2) (Sr.sn r2)
 ·rw[sn_errB (Sr.sn r2)] at he
  rw[if_neg (by rw[he];decide)] at P
  exact P S2 Z δ (Fr.grow (s1.trans s2))
theorem okfl_asg [Sr R] (i:Nat) {F:List T->Option T}{ga:Ev->Option (List T)}{ua:TDA}(h:OkAV ga ua):OkFl (xasgS i F ga) (dXAsg i (spF R F) ua):=λ S0 Z0 S Z δ ρ o E Fr e P=>by
 obtain⟨ys,e1,e2⟩:=Option.bind_eq_some_iff.mp e
 obtain⟨y,e3,rfl⟩:=Option.map_eq_some_iff.mp e2
 refine h S Z δ ρ ys _ Fr.er e1 λ ds S1 s1 r1=>⟨Z,ys,y,(Fr.er.grow s1).zd,r1,e3,λ d S2 s2 r2=>⟨λ he=>?_,λ he=>?_⟩⟩
 ·rw[sn_errB (Sr.sn r2)] at he
  rw[if_pos he] at P
  exact P he d S2 (s1.trans s2) (Sr.sn r2)
 ·rw[sn_errB (Sr.sn r2)] at he
  rw[if_neg (by rw[he];decide)] at P
  exact P S2 Z _ ((Fr.grow (s1.trans s2)).setIm i (Sr.sn r2))
theorem FR.hole (h:FR S0 Z0 S Z δ ρ) (i:Nat) (v:Option D):FR S0 Z0 S Z (δ.set i v) (ρ.set i none):=by
 refine⟨⟨h.er.zd,λ j t e=>?_,λ j ts e=>?_⟩,by simp[h.len],h.sx,h.z0,h.zz,h.zn,λ j ts p e e'=>?_,λ j k ts us p n e1 e2 e3 e4=>?_⟩
 ·rcases set_get e with ⟨rfl,hl,e⟩ | ⟨n,e⟩
  ·cases e
  ·rw[get_set_ne n];exact h.er.im j t e
 ·rcases set_get e with ⟨rfl,hl,e⟩ | ⟨n,e⟩
  ·cases e
  ·rw[get_set_ne n];exact h.er.ow j ts e
 ·rcases set_get e with ⟨rfl,hl,e⟩ | ⟨n,e⟩
  ·cases e
  ·rw[get_set_ne n] at e';exact h.fr j ts p e e'
 ·rcases set_get e1 with ⟨rfl,hl,e⟩ | ⟨n1,e1⟩
  ·cases e
  rcases set_get e2 with ⟨rfl,hl,e⟩ | ⟨n2,e2⟩
  ·cases e
  rw[get_set_ne n1] at e3;rw[get_set_ne n2] at e4
  exact h.dj j k ts us p n e1 e2 e3 e4
theorem oks_try (i j:Nat) (hg:OkFl g t):OkS R (tryS i j g) (dTry i j t):=λ S0 Z0 S Z δ ρ o E F e P=>by
 obtain⟨o1,e1,e2⟩:=Option.bind_eq_some_iff.mp e
 refine hg S0 Z0 S Z δ ρ o1 _ F e1 ?_
 cases o1 with
 | nx ρ'=>cases e2;exact P
 | rt y=>
  dsimp only at e2 ⊢
  split at e2
  ·rename_i hy
   cases e2
   exact λ _ d S' s r=>⟨by rw[sn_errB r];exact hy,P S' Z _ ((((F.grow s).hole i (some d)).setIm j r).hole i none)⟩
  ·cases e2
 | bk _=>trivial
 | ct _=>trivial
end
section
variable {P:Program}{w:World}{K:PySem.W.Frag}{mg:Str->Option Value}{base:Heap}{x:Str}{st:Stmt}
theorem fd7 {R:Rk} [Lo R] {N ps:List Str}{k n:Nat}{g:Sm}(F:Fy K mg x st) (Sc:FnScope N ps (defScope st)) (hn:n=ps.length)
  (hb:∀ (kV doc pm:Value) (an:Option Addr) (cdv ct:Value) (us:List Value),us.length=ps.length->bindArgs (PySem.W.fnOf x x (defArgs st) (defBody st) (defScope st) .none kV doc pm an cdv ct) ⟨us,[]⟩=pure (ps.zip us))
  (hbody:∀ (f:Addr) (cdv:Value) (A:Around) (outer:List Env) (s:Shared) (H:Hp) (E:XK),Room k (A.deeper (envOfC x (defScope st) s.heap.objs.size f cdv))->
   ∃ t,PDX (cxOf CX0 P w K mg base N x (defScope st) f cdv A outer s H E).nox false (defBody st) t/\OkS R g t):FDX P w K mg base x (k+1) ps (spF R (runB N n g)):=by
 obtain⟨f,fd,F,hm⟩:=F
 refine⟨⟨f,fd,fnX F Sc (λ ds S Q h=>by rw[h.len,hn]) λ cdv A outer s H E hr=>?_,hm,F.kp,F.binds hb⟩,spF.mo⟩
 obtain⟨t,h1,h2⟩:=hbody f cdv A outer s H E hr
 exact⟨t,h1,λ ds S Q h=>body_ok h2 h⟩
theorem FDX.no {R:Rk} [Sr R] {k:Nat}{ps:List Str}{F:List T->Option T}(G:FDX P w K mg base x k ps (spF R F)):FD P w K mg base x k ps (spF R (noE F)):=by
 obtain⟨⟨f,fd,h1,h2⟩,hm⟩:=G.fd
 refine⟨⟨f,fd,h1.imp λ vs H Q E ⟨ds,S,r1,r2,Z,ys,y,a1,a2,a3,a4⟩=>⟨ds,S,r1,r2,?_⟩,h2⟩,spF.mo⟩
 obtain⟨z,b1,b2⟩:=Option.bind_eq_some_iff.mp a3
 split at b2
 ·cases b2
 ·rename_i hy
  cases b2
  exact⟨Z,ys,y,a1,a2,b1,λ d S' s r=>⟨by rw[sn_errB (Sr.sn r)];simpa using hy,a4 d S' s r⟩⟩
end
end L5
namespace L3
open PySem PySem.Spec L2
open PyProof.Rows hiding St
theorem SP.wish' {X:Cx}{pins:List (Addr×Obj)}{W:Value->Shared->Prop}{D:Ends}{f:Flow}{s':Shared}(h:SP X pins D f s'):SP (X.wish W) pins D f s':=by
 cases f with
 | next=>obtain⟨σ',H',I,q⟩:=h;exact⟨σ',H',I.wish _,q⟩
 | brk=>obtain⟨σ',H',I,q⟩:=h;exact⟨σ',H',I.wish _,q⟩
 | cont=>obtain⟨σ',H',I,q⟩:=h;exact⟨σ',H',I.wish _,q⟩
 | ret u=>obtain⟨v,σ',H',I,r,q⟩:=h;exact⟨v,σ',H',I.wish _,r,q⟩
theorem pdx_for {X:Cx}{tg iter:Expr}{body:List Stmt}{ti:TDI}{g:TDG}{tb:TDS}{pos:Pos}(hc:X.calm=true) (hi:∀ W,PDI (X.wish W) tg iter ti) (hg:∀ W,PDG (X.wish W) tg g) (hb:PDX X false body tb)
  (hs:∀ x,foldedSetIterable iter X.env x=pure x:=by intro _;rfl):PDX1 X false (.For tg iter body [] pos) (dFor ti g tb):=by
 refine⟨dFor.mo (hi X.xe).mo (hg X.xe).mo hb.mo,λ pins s σ H D Q W hW I ⟨δ,S,r1,r2,z⟩=>?_⟩
 have bs:PSs (X.wish W) body (upX X.K tb Q):=λ pins s σ H D I hu=>wpAny_mono (hb.px pins s σ H D Q W hW.any I.unwish hu) (λ _ _ q=>SP.wish' q) λ _ _ z=>z
 refine wpAny_mono (ps_for (X:=X.wish W) (hW.own rfl) hc (hi W).pi (hg W).pg bs hs pins s σ H D (I.wish W) ?_) (λ _ _ q=>SP.unwish q) λ _ _ z=>z
 refine⟨δ,S,r1,r2,(hi W).mo δ S _ _ (λ I S1 hW J H1 e1 p1 rep=>?_) z⟩
 obtain⟨W,w0,wk,ws,wd⟩:=hW
 refine⟨λ i m σ H2=>m=I.items.length-i/\i<=I.items.length/\Ext H1 H2/\∃ δ S,RepSt X.K H2 δ σ/\RepH X.K H2 S/\W i δ S,⟨_,rfl,Nat.zero_le _,.refl _,δ,S1,r1.ext e1,p1,w0⟩,?_⟩
 rintro i m σ2 H2 ⟨rfl,hi',x2,δ2,S2,q1,q2,w2⟩
 obtain⟨g1,g2⟩:=rep i H2 S2 x2 q2 (wk i δ2 S2 w2)
 by_cases hl:i<I.items.length
 ·have hd:I.items[i]?=some I.items[i]:=by simp[hl]
  obtain⟨go,yl⟩:=g1 _ hd
  refine .inr ⟨go,fun σ' H'=>Ext H1 H'/\∃ δ S,RepSt X.K H' δ σ'/\RepH X.K H' S/\W (i+1) δ S,fun σ' H' q=>⟨_,by omega,rfl,hl,q⟩,λ x H3 hy=>?_⟩
  obtain⟨x3,p3,d3⟩:=yl x H3 hy
  refine⟨_,δ2,S2,d3,q1.ext x3,p3,(hg X.xe).mo _ δ2 S2 _ _ (fun δ4 S4 z4 σ4 H4 a1 a2 a3=>?_) (ws i _ δ2 S2 hd w2)⟩
  refine⟨δ4,S4,a1,a3,hb.mo _ _ δ4 S4 ⟨fun δ5 S5 w5 σ5 H5 b1 b2 b3=>⟨((x2.trans x3).trans a2).trans b2,δ5,S5,b1,b3,w5⟩,λ _ _ q=>dnR.ext (((e1.trans x2).trans x3).trans a2) q,λ _ _ q=>dnS.ext (((e1.trans x2).trans x3).trans a2) q,fun δ5 S5 w5 σ5 H5 b1 b2 b3=>⟨((x2.trans x3).trans a2).trans b2,δ5,S5,b1,b3,w5⟩⟩ z4⟩
 ·have e:i=I.items.length:=by omega
  subst e
  exact .inl ⟨g2 (Nat.le_refl _),wd δ2 S2 w2 σ2 H2 q1 (e1.trans x2) q2⟩
structure OwnG (K:PySem.W.Frag) (cn:Str) (D:Addr):Prop where
 top:PySem.W.nsIn K mainGlobals cn=some (some (.ref D))
 own:∃ bm N,OwnC K cn D bm N
noncomputable def nameO (o:Obj):Option Str:=match o.data with
 | .cls cd=>some cd.name
 | _=>none
theorem OwnC.nm {K:PySem.W.Frag}{c:Str}{C N:Addr}{bm:List Value}(h:OwnC K c C bm N):(K.lookup C).bind nameO=some c:=by
 obtain⟨⟨q,bs,sn,sub,ab,col,dd,k0,k1,k2,k3,k5,e⟩,_⟩:=h
 rw[e];rfl
theorem isE_ok {K:PySem.W.Frag}{c cn:Str}{C P N NP D:Addr}(E:ErrN K c C P N NP) (G:OwnG K cn D):(Value.ref C::.ref P::bmV).contains (.ref D)=(decide (cn=c)||decide (cn="PurseError")):=by
 obtain⟨bm,N',g⟩:=G.own
 by_cases h1:cn=c
 ·subst h1
  have:=G.top.symm.trans E.top
  cases this
  simp
 ·by_cases h2:cn="PurseError"
  ·subst h2
   have:=G.top.symm.trans E.ptop
   cases this
   simp
  ·have d1:D≠C:=λ z=>by
    subst z
    have:=g.nm.symm.trans E.own.nm
    cases this;exact h1 rfl
   have d2:D≠P:=λ z=>by
    subst z
    have:=g.nm.symm.trans E.par.nm
    cases this;exact h2 rfl
   have b1:(Value.ref D == Value.ref C)=false:=by simpa using d1
   have b2:(Value.ref D == Value.ref P)=false:=by simpa using d2
   rw[List.contains_cons,List.contains_cons,b1,b2,decide_eq_false h1,decide_eq_false h2]
   rfl
inductive HeldTo (K:PySem.W.Frag) (c:Str):V->Bool->Prop where
 | own {cn:Str}{D:Addr}(g:OwnG K cn D):HeldTo K c (.ref D) (decide (cn=c)||decide (cn="PurseError"))
 | val:HeldTo K c (.ty "ValueError") true
theorem call_isE {X:Cx}:CallR X (.builtin "isinstance") (λ xs H Q=>∃ e C dx c k b,xs=[.ref e,k]/\H e=some (ErrO e C dx)/\ErrC X.K c C/\HeldTo X.K c k b/\Q (.bl b) H):=by
 intro pins s σ H xs us Q I r h
 obtain⟨e,C,dx,c,k,b,rfl,h1,⟨P,N,NP,h2⟩,h3,q⟩:=h
 cases r with
 | cons ra rb=>
 cases rb with
 | cons rb rc=>
 cases rc
 rename_i u1 u2
 obtain rfl:u1=Value.ref e:=ra
 obtain⟨hh,g,d,t,os⟩:=s
 obtain⟨⟨oe,vs,he,hc,hdx,hdt⟩,_⟩:=I.hok e _ h1
 cases h3 with
 | @own cn D G=>
  obtain rfl:u2=Value.ref D:=rb
  obtain⟨bm,N',o⟩:=id G.own
  obtain⟨⟨q1,bs,sn,sub,ab,col,dd,k0,k1,k2,k3,k5,hD⟩,_⟩:=o.at I.kIn
  refine xc_isinstance (b:=(Value.ref C::.ref P::bmV).contains (.ref D)) (λ prog w A Q' E hq=>xc_isi_ref (h2.xcls I.kIn) he hc hD rfl rfl hq) λ t'=>⟨.bl _,H,I.tok t',rfl,?_⟩
  rw[isE_ok h2 G];exact q
 | val=>
  obtain rfl:u2=Value.type "ValueError":=rb
  exact xc_isinstance (b:=true) (λ prog w A Q' E hq=>xc_isi_type (T:="ValueError") (h2.xcls I.kIn) he hc (by kernel_rfl) hq) λ t'=>⟨.bl _,H,I.tok t',rfl,q⟩
def dIsE (k:Str->Bool) (te:TDE):TDE:=fun δ S Q=>te δ S λ x S1=>match x with
 | .err c _ _=>Q (.bl (k c)) S1
 | _=>False
def dFld (f:Str) (te:TDE):TDE:=fun δ S Q=>te δ S λ x S1=>match x with
 | .err _ f' d=>f'=f/\Q d S1
 | _=>False
section
variable {X:Cx}{e:Expr}{te:TDE}{p q pos:Pos}
theorem pd_isE {cn:Str}{V0:V}{k:Str->Bool}(hk:∀ c,HeldTo X.K c V0 (k c)) (hp:PE X (.Name cn q) (tC V0)) (T:Bt X.mg) (he:PD X e te) (hg:Gl X "isinstance":=by rfl) (h1:starEach (e::[.Name cn q]) X.env=(false,eval e X.env)::starEach [.Name cn q] X.env:=by rfl) (h2:(backTo pos (starEach [.Name cn q] X.env)).any (·.1)=false:=by rfl) (h3:starEach [.Name cn q] X.env=(false,eval (.Name cn q) X.env)::starEach [] X.env:=by rfl):
  PD X (.Call (.Name "isinstance" p) [e,.Name cn q] [] pos) (dIsE k te):=by
 refine⟨fun δ S Q Q' hq z=>he.mo δ S _ _ (λ y S1 z=>?_) z,PE.imp (pe_callB call_isE hg T.isinstance boot_isinstance (pa_cons he.pe (pa_cons hp pa_nil h3) h1) (by decide) (by decide) h1 h2) fun σ H Q hu=>?_⟩
 ·split at z
  ·exact hq _ _ z
  ·exact z.elim
 ·obtain⟨δ,S,r1,r2,z⟩:=hu
  refine upE.go he.mo r1 r2 z λ x S1 v H1 h1 q1 e1 p1=>?_
  cases x with
  | err c f d=>
   simp only[RepD] at q1
   obtain⟨a,C,dx,w,rfl,⟨hE,h2,h3⟩,_⟩:=q1
   exact⟨a,C,dx,c,V0,k c,rfl,h2,hE,hk c,h1 _ H1 (by simp only[RepD]) e1 p1⟩
  | non=>exact h1.elim
  | bl _=>exact h1.elim
  | int _=>exact h1.elim
  | str _=>exact h1.elim
  | tup _=>exact h1.elim
  | rol _=>exact h1.elim
  | ref _=>exact h1.elim
theorem pd_fldE {f:Str}(he:PD X e te) (hf:f∈flds:=by simp) (hb:attributeBase e f X.env (eval e X.env)=eval e X.env:=by rfl):PD X (.Attribute e f pos) (dFld f te):=by
 refine⟨fun δ S Q Q' hq z=>he.mo δ S _ _ (λ y S1 z=>?_) z,λ pins s σ H Q I hu=>?_⟩
 ·split at z
  ·exact⟨z.1,hq _ _ z.2⟩
  ·exact z.elim
 obtain⟨δ,S,r1,r2,z⟩:=hu
 refine attr_of hb (thn (he.pe pins s σ H (λ x H1=>∃ a C dx c w,x=.ref a/\ErrC X.K c C/\H1 a=some (ErrO a C dx)/\H1 dx=some (.xd [(f,w)])/\Q w H1) I (upE.go he.mo r1 r2 z λ x S1 v H1 h1 q1 e1 p1=>?_)) λ u s1 ⟨x,H1,I1,rx,a,C,dx,c,w,ex,⟨P,N,NP,hE⟩,h1,h2,q⟩=>?_)
 ·cases x with
  | err c f' d=>
   simp only[RepD] at q1
   obtain⟨a,C,dx,w,rfl,⟨hE,h2,h3⟩,h4⟩:=q1
   obtain⟨rfl,h1⟩:=h1
   exact⟨a,C,dx,c,w,rfl,hE,h2,h3,h1 w H1 h4 e1 p1⟩
  | non=>exact h1.elim
  | bl _=>exact h1.elim
  | int _=>exact h1.elim
  | str _=>exact h1.elim
  | tup _=>exact h1.elim
  | rol _=>exact h1.elim
  | ref _=>exact h1.elim
 ·subst ex
  obtain rfl:u=Value.ref a:=rx
  obtain⟨hh,g,d,t,os⟩:=s1
  obtain⟨⟨oe,vs,he,hc,hdx,hdt⟩,_⟩:=I1.hok a _ h1
  obtain⟨mA,hns,hr⟩:=I1.hok dx _ h2
  have hv:=hr f
  simp only[List.lookup_cons,beq_self_eq_true,if_true] at hv
  obtain⟨u',hu',ru⟩:∃ u',mA f=some u'/\RelV w u':=by
   cases z:mA f with
   | none=>rw[z] at hv;exact hv.elim
   | some u'=>rw[z] at hv;exact⟨u',rfl,hv⟩
  obtain⟨⟨q1,bs,sn,sub,ab,col,dd,k0,k1,k2,k3,k5,hC⟩,hN,hn⟩:=hE.own.at I1.kIn
  obtain⟨⟨q',bs',sn',sub',ab',col',dd',l0,l1,l2,l3,l5,hP⟩,hN',hn'⟩:=hE.par.at I1.kIn
  have m1:("__getattribute__":Str)∈noNm:=by simp
  have m2:("__getattr__":Str)∈noNm:=by simp
  exact xc_getattr PySem.F.attrBase_ValueError hC hN ⟨⟨_,_,_,_,hP,hN'⟩⟩ (hn _ m1) (hn' _ m1) (hn _ m2) (hn' _ m2) (hn _ (fld_noNm hf)) (hn' _ (fld_noNm hf)) (ve_fld hf) he hc (λ c z=>by rw[hdt] at z;cases z) hdx hns hu' (PySem.W.handedOut_of (handed_of ru)) ⟨w,H1,I1.tok _,ru,q⟩
end
end L3
namespace L5
open PySem PySem.Spec L2 L3
open PyProof.Rows hiding St
@[simp] noncomputable def isES (k:Str->Bool) (g:Ev->Option T):Ev->Option T:=fun ρ=>(g ρ).bind λ x=>match x with
 | .err c _ _=>some (.bl (k c))
 | _=>none
@[simp] noncomputable def fldS (f:Str) (g:Ev->Option T):Ev->Option T:=fun ρ=>(g ρ).bind λ x=>match x with
 | .err _ f' t=>if f'=f then some t else none
 | _=>none
theorem ok_isE {k:Str->Bool}{g:Ev->Option T}{te:TDE}(hf:OkR g te):OkF (isES k g) (dIsE k te):=λ S Z δ ρ y Q hE e hq=>by
 obtain⟨x,e1,e2⟩:=Option.bind_eq_some_iff.mp e
 refine hf S Z δ ρ x _ hE e1 λ d S1 s1 r1=>?_
 split at e2
 ·cases e2
  obtain⟨d',rfl,_⟩:=Vw.err r1
  exact hq _ S1 s1 (Cl.of (λ _=>nofun) sn_bl)
 ·cases e2
theorem ok_fld {f:Str}{g:Ev->Option T}{te:TDE}(hf:OkR g te):OkE (fldS f g) (dFld f te):=λ S Z δ ρ y Q hE e hq=>by
 obtain⟨x,e1,e2⟩:=Option.bind_eq_some_iff.mp e
 refine hf S Z δ ρ x _ hE e1 λ d S1 s1 r1=>?_
 split at e2
 ·split at e2
  ·rename_i h
   cases e2
   obtain⟨d',rfl,h2⟩:=Vw.err r1
   exact⟨h,hq _ S1 s1 h2⟩
  ·cases e2
 ·cases e2
end L5
namespace L3
open PySem PySem.Spec L2
open PyProof.Rows hiding St
def Ec (K:PySem.W.Frag) (c:Str):Prop:=∃ C P N NP,ErrN K c C P N NP
theorem Ec.i {K:PySem.W.Frag}{c:Str}{C P:Addr}{o1 o2:Value}{d1 d2:Option Addr}{c1 c2:ClassData}{s1 s2:Array (Option Value)}(_:PySem.W.nsIn K mainGlobals c=some (some (.ref C))) (_:PySem.W.nsIn K mainGlobals "PurseError"=some (some (.ref P))) (_:K.lookup C=some ⟨o1,d1,.cls c1,s1⟩) (_:K.lookup P=some ⟨o2,d2,.cls c2,s2⟩)
  (h:errIn K c=some (C,P,c1.ns,c2.ns)):Ec K c:=⟨C,P,_,_,errn_of h⟩
def Ei (K:PySem.W.Frag) (c f:Str) (st:Stmt):Prop:=∃ (C P N NP fI:Addr) (fd:FuncData),ErrN K c C P N NP/\PySem.W.keepIn K (.ref C)=true/\PySem.W.nsIn K N "__init__"=some (some (.ref fI))/\PySem.W.isFn K (.ref fI)=true/\Fun K "__init__" (c++".__init__") st fI fd
theorem Ei.i {K:PySem.W.Frag}{c f:Str}{st:Stmt}{C P fI:Addr}{o1 o2:Value}{d1 d2:Option Addr}{c1 c2:ClassData}{s1 s2:Array (Option Value)}(_:PySem.W.nsIn K mainGlobals c=some (some (.ref C))) (_:PySem.W.nsIn K mainGlobals "PurseError"=some (some (.ref P))) (_:K.lookup C=some ⟨o1,d1,.cls c1,s1⟩) (_:K.lookup P=some ⟨o2,d2,.cls c2,s2⟩)
  (h:errIn K c=some (C,P,c1.ns,c2.ns)) (k:PySem.W.keepIn K (.ref C)=true) (n:PySem.W.nsIn K c1.ns "__init__"=some (some (.ref fI))) (g:PySem.W.isFn K (.ref fI)=true)
  {oc:Value}{od an:Option Addr}{osl:Array (Option Value)}{kV doc pm cdv ct:Value}(l:K.lookup fI=some ⟨oc,od,.func (PySem.W.fnOf "__init__" (c++".__init__") (defArgs st) (defBody st) (defScope st) .none kV doc pm an cdv ct),osl⟩)
  (cd:PySem.W.codeIn K cdv (c++".__init__")=true) (k2:PySem.W.keepIn K (.ref fI)=true):Ei K c f st:=⟨C,P,_,_,fI,_,errn_of h,k,n,g,fun_mk l cd k2⟩
def Og (K:PySem.W.Frag) (mg:Str->Option Value) (cn:Str):Prop:=∃ D,OwnG K cn D/\mg cn=some (.ref D)
section
variable {K:PySem.W.Frag}{mg:Str->Option Value}{h:Heap}{c f:Str}{st:Stmt}
theorem Ei.mk (H:Ei K c f st) (X:K.In h) (G:h.Ns mainGlobals mg) (hf:f∈flds:=by simp):InF K mg c f st:=by
 obtain⟨C,P,N,NP,fI,fd,e,k,n,g,F⟩:=H
 exact⟨hf,C,P,N,NP,fI,fd,e,PySem.W.mg_of X G e.top,k,n,g,F⟩
theorem Ec.mk (H:Ec K c) (X:K.In h) (G:h.Ns mainGlobals mg):Og K mg c:=by
 obtain⟨C,P,N,NP,e⟩:=H
 exact⟨C,⟨e.top,_,_,e.own⟩,PySem.W.mg_of X G e.top⟩
theorem Ec.par (H:Ec K c) (X:K.In h) (G:h.Ns mainGlobals mg):Og K mg "PurseError":=by
 obtain⟨C,P,N,NP,e⟩:=H
 exact⟨P,⟨e.ptop,_,_,e.par⟩,PySem.W.mg_of X G e.ptop⟩
end
noncomputable def isO (cn:Str) (c:Str):Bool:=decide (cn=c)||decide (cn="PurseError")
section
variable {X:Cx}{e:Expr}{te:TDE}{p q pos:Pos}
theorem pd_isO {cn:Str}(O:Og X.K X.mg cn) (T:Bt X.mg) (he:PD X e te) (hd:(cn == ("__debug__":Str))=false:=by decide) (hg2:Gl X cn:=by rfl) (hg:Gl X "isinstance":=by rfl) (h1:starEach (e::[.Name cn q]) X.env=(false,eval e X.env)::starEach [.Name cn q] X.env:=by rfl) (h2:(backTo pos (starEach [.Name cn q] X.env)).any (·.1)=false:=by rfl) (h3:starEach [.Name cn q] X.env=(false,eval (.Name cn q) X.env)::starEach [] X.env:=by rfl):
  PD X (.Call (.Name "isinstance" p) [e,.Name cn q] [] pos) (dIsE (isO cn) te):=by
 obtain⟨D,o,hm⟩:=O
 exact pd_isE (V0:=.ref D) (λ c=>.own o) (pe_glob hg2 hm rfl hd) T he hg h1 h2 h3
theorem boot_ValueError:bootBuiltins "ValueError"=some (.type "ValueError"):=by decide +kernel
theorem pd_isV (hm:X.mg "ValueError"=none) (T:Bt X.mg) (he:PD X e te) (hg2:Gl X "ValueError":=by rfl) (hg:Gl X "isinstance":=by rfl) (h1:starEach (e::[.Name "ValueError" q]) X.env=(false,eval e X.env)::starEach [.Name "ValueError" q] X.env:=by rfl) (h2:(backTo pos (starEach [.Name "ValueError" q] X.env)).any (·.1)=false:=by rfl) (h3:starEach [.Name "ValueError" q] X.env=(false,eval (.Name "ValueError" q) X.env)::starEach [] X.env:=by rfl):
  PD X (.Call (.Name "isinstance" p) [e,.Name "ValueError" q] [] pos) (dIsE (λ _=>true) te):=
 pd_isE (V0:=.ty "ValueError") (λ c=>.val) (pe_bltn hg2 hm boot_ValueError rfl (by decide) (by decide)) T he hg h1 h2 h3
end
end L3
namespace L5
open PySem PySem.Spec L2 L3
open PyProof.Rows hiding St
noncomputable def clsBody:Stmt->List Stmt
 | .ClassDef _ _ _ b _ _ _ _ _ _ _=>b
 | _=>[]
end L5
namespace L5
open PySem PySem.Spec L2 L3
open PyProof.Rows hiding St
end L5
namespace PySem
theorem dict_eq0 (l b:Addr) (n n2:Nat) (dd dd2:Option Addr) (sl sl2:Array (Option Value)) (h1:(l == sysModules)=false) (h2:(b == sysModules)=false):
  Meets (Builtin.«dict.__eq__» ⟨[.ref l,.ref b],[]⟩)
   (λ _ R s=>s.heap.get? l=some { cls:=.type "dict",dict:=dd,data:=.dict #[] n,slots:=sl }/\s.heap.get? b=some { cls:=.type "dict",dict:=dd2,data:=.dict #[] n2,slots:=sl2 }/\
    R (.ok (.ret (.bool true))) s):=
 .of_wp λ prog w A R s h=>by
  obtain⟨hp,g,d,tk,os⟩:=s;obtain⟨hl,hb,h⟩:=h
  have f3:isSubtype (.type "dict") (.type "dict")=pure true:=by rw[isSubtype_type];kernel_rfl
  wp_walk using wpAny_loadPart' hl,wpAny_loadPart' hb
  have e:∀ f:Nat->(Option Bool×Unit)->Sem (ForInStep (Option Bool×Unit)),(forIn [:(#[]:Array DictEntry).size] ((none:Option Bool),()) f)=pure (none,()):=λ f=>by
   simp[Std.Legacy.Range.forIn_eq_forIn_range',Std.Legacy.Range.size]
  refine wpAny_of_eq (a:=((none:Option Bool),())) (e _) ?_
  wp_walk
  exact⟨_,rfl,h⟩
end PySem
namespace L3
open PySem PySem.Spec L2
open PyProof.Rows hiding St
theorem dict0 {P:Program}{w:World}{H:Hp}{h:Heap}{a:Addr}(x:ObjOk P w H h a (.dK [])):(a == sysModules)=false/\∃ (n:Nat),h.get? a=some { cls:=.type "dict",dict:=none,data:=.dict #[] n,slots:=#[] }:=by
 obtain⟨_,h2,vs,kv,⟨oc,od,dt,sl⟩,es,ep,ho,⟨he1,he2,he3⟩,hd,_,hes,_⟩:=x
 refine⟨h2,ep,?_⟩
 cases kv
 have:es=#[]:=by
  apply Array.ext'
  exact List.eq_nil_of_length_eq_zero hes.length
 subst this
 simp only at hd he1 he2 he3
 subst hd he1 he2 he3
 exact ho
theorem op_eqDD {X:Cx}(hu:X.A.units<cLine):OpR X (compareOp .Eq) (λ x y H Q=>∃ a b,x=.ref a/\y=.ref b/\H a=some (.dK [])/\H b=some (.dK [])/\Q (.bl true) H):=by
 intro pins s σ H x y v u Q I rx ry h
 obtain⟨a,b,rfl,rfl,ha,hb,q⟩:=h
 obtain rfl:v=Value.ref a:=rx
 obtain rfl:u=Value.ref b:=ry
 obtain⟨s1,n1,g1⟩:=dict0 (I.hok a _ ha)
 obtain⟨s2,n2,g2⟩:=dict0 (I.hok b _ hb)
 exact richCompare_meets_room (op:=.Eq) ⟨_,g1,rfl⟩ ⟨_,g2,rfl⟩ PySem.F.slot_dict_eq PySem.F.entry_dict_eq (PySem.F.args_dict_eq_2 _ _) (dict_eq0 a b n1 n2 none none #[] #[] s1 s2)
  ⟨g1,g2,show Value.bool true≠Value.notImplemented/\EP X pins σ Q (.bool true) s from ⟨(λ x=>nomatch x),.bl true,H,I,rfl,q⟩⟩ hu
def fEqD:RD2:=λ x y S Q=>(fEq false x y S Q)\/∃ a b,x=.ref a/\y=.ref b/\S a=some (.dct [])/\S b=some (.dct [])/\Q (.bl true) S
theorem fEqD.mo:MoR fEqD:=λ x y S Q Q' hq h=>by
 rcases h with h | ⟨a,b,h1,h2,h3,h4,h5⟩
 ·exact .inl (fEq.mo x y S Q Q' hq h)
 ·exact .inr ⟨a,b,h1,h2,h3,h4,hq _ _ h5⟩
theorem kv0 {K:PySem.W.Frag}{H:Hp}{S:SS}{a:Addr}(r:RepH K H S) (h:S a=some (.dct [])):H a=some (.dK []):=by
 obtain⟨vs,h1,h2⟩:=r a _ h
 cases h2
 exact h1
theorem fEqD.fits {K:PySem.W.Frag}:Fits2 K fEqD (λ x y H Q=>rCmpT K false x y H Q\/∃ a b,x=.ref a/\y=.ref b/\H a=some (.dK [])/\H b=some (.dK [])/\Q (.bl true) H):=λ x y d e H S Q h1 h2 h3 h=>by
 rcases h with h | ⟨a,b,rfl,rfl,g3,g4,g5⟩
 ·exact .inl (fEq.fits x y d e H S Q h1 h2 h3 h)
 ·simp only[RepD] at h1 h2
  exact .inr ⟨a,b,h1,h2,kv0 h3 g3,kv0 h3 g4,g5 _ H (by simp only[RepD]) (.refl H) h3⟩
section
variable {X:Cx}{a b:Expr}{ta tb:TDE}{pos:Pos}
theorem pd_eqD {k:Nat}(hr:Room k X.A) (ha:PD X a ta) (hb:PD X b tb):PD X (.Compare a [.Eq] [b] pos) (dOp fEqD ta tb):=pd_cmp ((op_eqT hr.units).or (op_eqDD hr.units0)) fEqD.fits fEqD.mo ha hb (nomark _)
end
end L3
namespace L5
open PySem L2 L3
noncomputable def eqDV:T->T->Option T
 | .dic,.dic=>some (.bl true)
 | x,y=>eqS false x y
theorem good_eqD:Good2 RkF eqDV fEqD:=λ S Z x y z d e Q hz hx hy ef hq=>by
 unfold eqDV at ef
 split at ef
 ·cases ef
  obtain⟨a,k1,⟨rfl,rfl⟩,h1⟩:=hx.dic
  obtain⟨b,k2,⟨rfl,rfl⟩,h2⟩:=hy.dic
  exact .inr ⟨a,b,rfl,rfl,h1,h2,hq _ S (.refl S) (Cl.of (λ _=>nofun) sn_bl)⟩
 ·exact .inl (good_eq S Z x y z d e Q hz hx hy ef hq)
end L5
namespace K24
open PySem L2 L3 L5
def B_is_whole:Sm:=
 (retS (andS (instS "int" (vrS 0)) (notS (instS "bool" (vrS 0)))))
def F_is_whole:List T->Option T:=runB ["thing"] 1 B_is_whole
def B_places_of:Sm:=
 (retS (cbS lenS (consS (opS ixS (vrS 0) (cS (.int 1))) nilS)))
def F_places_of:List T->Option T:=runB ["floor"] 1 B_places_of
def B_step_by:Sm:=
 (seqS (asgS 3 (slcS (opS ixS (opS ixS (vrS 0) (cS (.int 2))) (vrS 2)) (some (cS (.int 2))) none))
 (seqS (asgS 4 (opS addS (opS ixS (vrS 1) (cS (.int 0))) (opS ixS (vrS 3) (cS (.int 0)))))
 (seqS (asgS 5 (opS addS (opS ixS (vrS 1) (cS (.int 1))) (opS ixS (vrS 3) (cS (.int 1)))))
 (seqS (ifS (eOrS (tstS (opS ltS (vrS 4) (cS (.int 0)))) (tstS (opS ltS (vrS 5) (cS (.int 0))))) (retS (cS .non)) skipS)
 (retS (tupS (consS (cbS minS (consS (vrS 4) (consS (opS ixS (opS ixS (vrS 0) (cS (.int 0))) (cS (.int 0))) nilS))) (consS (cbS minS (consS (vrS 5) (consS (opS ixS (opS ixS (vrS 0) (cS (.int 0))) (cS (.int 1))) nilS))) nilS))))))))
def F_step_by:List T->Option T:=runB ["floor","pair","way","coins","first","second"] 3 B_step_by
def B_change_by:Sm:=
 (seqS (asgS 4 (opS ixS (vrS 1) (cS (.int 1))))
 (seqS (asgS 5 (opS subT (opS ixS (vrS 2) (vrS 4)) (opS mulS (vrS 3) (opS ixS (vrS 1) (cS (.int 2))))))
 (seqS (ifS (tstS (opS ltS (vrS 5) (cS (.int 0)))) (retS (cS .non)) skipS)
 (seqS (asgS 6 (cbS minS (consS (opS addS (opS ixS (vrS 2) (opS subT (cS (.int 1)) (vrS 4))) (opS mulS (vrS 3) (opS ixS (vrS 1) (cS (.int 3))))) (consS (opS ixS (vrS 0) (opS subT (cS (.int 1)) (vrS 4))) nilS))))
 (seqS (ifS (tstS (opS (eqS false) (vrS 4) (cS (.int 0)))) (retS (tupS (consS (varS 5) (consS (varS 6) nilS)))) skipS)
 (retS (tupS (consS (varS 6) (consS (varS 5) nilS)))))))))
def F_change_by:List T->Option T:=runB ["brims","stall","pair","times","purse","left","got"] 4 B_change_by
def B_law_mixed:Sm:=
 (seqS (asgS 2 (cS (.int 0)))
 (seqS (ifS (tstS (opS ltS (vrS 1) (cbS lenS (consS (vrS 0) nilS)))) (asgS 2 (opS modT (opS ixS (vrS 0) (vrS 1)) (opS powT (cS (.int 2)) (cS (.int 64))))) skipS)
 (retS (opS fdivT (opS modT (opS addS (opS addS (opS mulS (vrS 2) (cS (.int 46337))) (opS mulS (opS mulS (cS (.int 2741)) (vrS 1)) (vrS 1))) (opS mulS (cS (.int 59)) (vrS 1))) (cS (.int 2147483629))) (cS (.int 2))))))
def F_law_mixed:List T->Option T:=runB ["_law_script","_law_k","_law_cell"] 2 B_law_mixed
def b1_law_stalls:Sm:=
 (seqS (ifS (eAndS (tstS (opS (eqS false) (opS ixS (vrS 1) (vrS 3)) (cS (.str "keeper")))) (tstS (opS (eqS false) (opS modT (vrS 0) (cS (.int 2))) (cS (.int 1))))) (appS 2 (tupS (consS (varS 3) (consS (opS modT (opS fdivT (vrS 0) (cS (.int 2))) (cS (.int 2))) (consS (opS addS (cS (.int 1)) (opS modT (opS fdivT (vrS 0) (cS (.int 4))) (cS (.int 12)))) (consS (opS modT (opS fdivT (vrS 0) (cS (.int 48))) (cS (.int 13))) nilS)))))) skipS)
 (asgS 0 (opS fdivT (vrS 0) (cS (.int 624)))))
def B_law_stalls:Sm:=
 (seqS (asgO 2 (lstS nilS))
 (seqS (forS [3] (itA rng1 (consS (cbS lenS (consS (vrS 1) nilS)) nilS)) (nmG 3) b1_law_stalls)
 (retS (cbS tupleS (consS (vrS 2) nilS)))))
def F_law_stalls:List T->Option T:=runB ["_law_cell","_law_owners","_law_found","_law_place"] 2 B_law_stalls
def c1_law_kinds:Ev->Option T:=
 lcS [none,some 1] (itA rng1 (consS (cS (.int 11)) nilS)) (nmG 0) (truS (opS ixS (vrS 1) (vrS 0))) (varS 0)
def B_law_kinds:Sm:=
 (seqS (asgS 1 (lstS (consS (isES (isO "NoFloor") (vrS 0)) (consS (isES (isO "NoMore") (vrS 0)) (consS (isES (isO "NoPlace") (vrS 0)) nilS)))))
 (seqS (asgS 1 (opS addS (vrS 1) (lstS (consS (isES (isO "NoPair") (vrS 0)) (consS (isES (isO "NoWay") (vrS 0)) (consS (isES (isO "NoChange") (vrS 0)) nilS))))))
 (seqS (asgS 1 (opS addS (vrS 1) (lstS (consS (isES (isO "NoCount") (vrS 0)) (consS (isES (isO "NoName") (vrS 0)) (consS (isES (isO "NoRow") (vrS 0)) nilS))))))
 (seqS (asgS 1 (opS addS (vrS 1) (lstS (consS (isES (isO "PurseError") (vrS 0)) (consS (isES (λ _=>true) (vrS 0)) nilS)))))
 (retS c1_law_kinds)))))
def F_law_kinds:List T->Option T:=runB ["_law_caught","_law_some"] 1 B_law_kinds
def B_law_like:Sm:=
 (seqS (ifS (eOrS (tstS (opS (eqS true) (instS "bool" (vrS 0)) (instS "bool" (vrS 1)))) (tstS (opS (eqS true) (instS "int" (vrS 0)) (instS "int" (vrS 1))))) (retS (cS (.bl false))) skipS)
 (retS (opS eqDV (vrS 0) (vrS 1))))
def F_law_like:List T->Option T:=runB ["_law_one","_law_other"] 2 B_law_like
def B_is_whole_within:Sm:=
 (retS (andS (cbS F_is_whole (consS (varS 0) nilS)) (chS leI leI (vrS 1) (vrS 0) (vrS 2))))
def F_is_whole_within:List T->Option T:=runB ["thing","least","most"] 3 B_is_whole_within
def B_is_from_nought_on:Sm:=
 (retS (andS (cbS F_is_whole (consS (varS 0) nilS)) (opS geI (vrS 0) (cS (.int 0)))))
def F_is_from_nought_on:List T->Option T:=runB ["thing"] 1 B_is_from_nought_on
def b1_law_ways:Sm:=
 (seqS (asgS 7 (cbS F_law_mixed (consS (varS 0) (consS (opS addS (vrS 1) (vrS 6)) nilS))))
 (seqS (asgS 8 (opS modT (vrS 7) (vrS 2)))
 (seqS (ifS (tstS (opS ltS (vrS 6) (vrS 2))) (asgS 8 (varS 6)) skipS)
 (seqS (asgO 9 (lstS (consS (opS subT (opS modT (opS fdivT (vrS 7) (cS (.int 64))) (opS addS (opS mulS (cS (.int 2)) (vrS 4)) (cS (.int 1)))) (vrS 4)) (consS (opS subT (opS modT (opS fdivT (vrS 7) (cS (.int 2048))) (opS addS (opS mulS (cS (.int 2)) (vrS 4)) (cS (.int 1)))) (vrS 4)) nilS))))
 (seqS (ifS (tstS (opS (eqS false) (opS modT (opS fdivT (vrS 7) (cS (.int 65536))) (cS (.int 5))) (cS (.int 0)))) (lputS 9 (opS modT (opS fdivT (vrS 7) (cS (.int 327680))) (cS (.int 2))) (cS (.int 0))) skipS)
 (appS 5 (tupS (consS (varS 8) (consS (opS modT (opS fdivT (vrS 7) (cS (.int 8))) (vrS 2)) (consS (opS ixS (vrS 9) (cS (.int 0))) (consS (opS ixS (vrS 9) (cS (.int 1))) nilS)))))))))))
def B_law_ways:Sm:=
 (seqS (asgO 5 (lstS nilS))
 (seqS (forS [6,7,8,9] (itA rng1 (consS (opS addS (vrS 2) (vrS 3)) nilS)) (nmG 6) b1_law_ways)
 (retS (cbS tupleS (consS (cbS sortsetV (consS (vrS 5) nilS)) nilS)))))
def F_law_ways:List T->Option T:=runB ["_law_script","_law_at","_law_many","_law_more","_law_span","_law_found","_law_k","_law_number","_law_start","_law_coins"] 5 B_law_ways
def B_law_stall_cell:Sm:=
 (seqS (ifS (eAndS (truS (vrS 2)) (tstS (opS ltS (vrS 1) (cbS lenS (consS (vrS 0) nilS))))) (retS (opS modT (opS ixS (vrS 0) (vrS 1)) (opS powT (cS (.int 10)) (cS (.int 64))))) skipS)
 (seqS (asgS 3 (cbS F_law_mixed (consS (varS 0) (consS (varS 1) nilS))))
 (retS (opS addS (opS mulS (opS mulS (vrS 3) (vrS 3)) (vrS 3)) (opS mulS (cS (.int 104729)) (vrS 3))))))
def F_law_stall_cell:List T->Option T:=runB ["_law_script","_law_at","_law_digits","_law_mixed_here"] 3 B_law_stall_cell
def c1_is_row_within:Ev->Option T:=
 lcS [none,none] (itA zipS (consS (vrS 0) (consS (vrS 1) nilS))) (tpG 2 (consG (nmG 0) (consG (nmG 1) nilG))) cTrue (cbS F_is_whole_within (consS (varS 0) (consS (opS ixS (vrS 1) (cS (.int 0))) (consS (opS ixS (vrS 1) (cS (.int 1))) nilS))))
def B_is_row_within:Sm:=
 (seqS (ifS (eOrS (eNotS (truS (instS "tuple" (vrS 0)))) (tstS (opS (eqS true) (cbS lenS (consS (vrS 0) nilS)) (cbS lenS (consS (vrS 1) nilS))))) (retS (cS (.bl false))) skipS)
 (retS (cbS (bsS λ bs=>bs.all id) (consS c1_is_row_within nilS))))
def F_is_row_within:List T->Option T:=runB ["thing","bounds"] 2 B_is_row_within
def B_check_place:Sm:=
 (ifS (eNotS (truS (cbS F_is_whole_within (consS (varS 1) (consS (cS (.int 0)) (consS (opS subT (cbS F_places_of (consS (varS 0) nilS)) (cS (.int 1))) nilS)))))) (rzS "NoPlace" "place" (varS 1)) skipS)
def F_check_place:List T->Option T:=runB ["floor","place"] 2 B_check_place
def B_is_way:Sm:=
 (retS (cbS F_is_whole_within (consS (varS 1) (consS (cS (.int 0)) (consS (opS subT (cbS lenS (consS (opS ixS (vrS 0) (cS (.int 2))) nilS)) (cS (.int 1))) nilS)))))
def F_is_way:List T->Option T:=runB ["floor","thing"] 2 B_is_way
def b1_law_floor:Sm:=
 (appS 6 (opS ixS (lstS (consS (cS (.str "keeper")) (consS (cS (.str "taker")) nilS))) (opS bandT (opS shrT (vrS 5) (vrS 7)) (cS (.int 1)))))
def B_law_floor:Sm:=
 (seqS (asgS 5 (cbS F_law_mixed (consS (varS 0) (consS (varS 1) nilS))))
 (seqS (asgO 6 (lstS nilS))
 (seqS (forS [7] (itA rng1 (consS (vrS 2) nilS)) (nmG 7) b1_law_floor)
 (seqS (asgS 8 (opS ixS (lstS (consS (cS (.int 1)) (consS (cS (.int 2)) (consS (cS (.int 3)) (consS (cS (.int 12)) nilS))))) (opS modT (opS fdivT (vrS 5) (cS (.int 256))) (cS (.int 4)))))
 (seqS (asgS 9 (tupS nilS))
 (seqS (ifS (tstS (opS (eqS false) (opS modT (opS fdivT (vrS 5) (cS (.int 1024))) (cS (.int 3))) (cS (.int 1)))) (fzS 6 (asgS 9 (cbS F_law_stalls (consS (cbS F_law_stall_cell (consS (varS 0) (consS (opS addS (vrS 1) (cS (.int 1))) (consS (opS (eqS false) (opS modT (opS fdivT (vrS 5) (cS (.int 3072))) (cS (.int 2))) (cS (.int 1))) nilS)))) (consS (varS 6) nilS))))) skipS)
 (retS (tupS (consS (varS 3) (consS (cbS tupleS (consS (vrS 6) nilS)) (consS (cbS F_law_ways (consS (varS 0) (consS (opS addS (vrS 1) (cS (.int 2))) (consS (varS 2) (consS (varS 4) (consS (varS 8) nilS)))))) (consS (varS 9) nilS))))))))))))
def F_law_floor:List T->Option T:=runB ["_law_script","_law_at","_law_many","_law_brims","_law_more","_law_number","_law_owners","_law_place","_law_span","_law_stalls_here"] 5 B_law_floor
def B_check_pair:Sm:=
 (ifS (eNotS (truS (cbS F_is_row_within (consS (varS 1) (consS (tupS (consS (tupS (consS (cS (.int 0)) (consS (opS ixS (opS ixS (vrS 0) (cS (.int 0))) (cS (.int 0))) nilS))) (consS (tupS (consS (cS (.int 0)) (consS (opS ixS (opS ixS (vrS 0) (cS (.int 0))) (cS (.int 1))) nilS))) nilS))) nilS))))) (rzS "NoPair" "pair" (varS 1)) skipS)
def F_check_pair:List T->Option T:=runB ["floor","pair"] 2 B_check_pair
def b1_stall_at:Sm:=
 (ifS (tstS (opS (eqS false) (opS ixS (vrS 2) (cS (.int 0))) (vrS 1))) (retS (varS 2)) skipS)
def B_stall_at:Sm:=
 (seqS (drpS (cbS (noE F_check_place) (consS (varS 0) (consS (varS 1) nilS))))
 (seqS (forS [2] (itS (opS ixS (vrS 0) (cS (.int 3)))) (nmG 2) b1_stall_at)
 (retS (cS .non))))
def F_stall_at:List T->Option T:=runB ["floor","place","stall"] 2 B_stall_at
def B_check_way_from:Sm:=
 (ifS (eOrS (eNotS (truS (cbS F_is_way (consS (varS 0) (consS (varS 2) nilS))))) (tstS (opS (eqS true) (opS ixS (opS ixS (opS ixS (vrS 0) (cS (.int 2))) (vrS 2)) (cS (.int 0))) (vrS 1)))) (rzS "NoWay" "way" (varS 2)) skipS)
def F_check_way_from:List T->Option T:=runB ["floor","place","way"] 3 B_check_way_from
def B_change_at:Sm:=
 (seqS (ifS (tstS (opS (eqS false) (vrS 3) (cS (.int 0)))) (retS (tupS (consS (opS ixS (vrS 2) (cS (.int 0))) (consS (opS ixS (vrS 2) (cS (.int 1))) nilS)))) skipS)
 (seqS (asgS 4 (cbS F_stall_at (consS (varS 0) (consS (varS 1) nilS))))
 (seqS (ifS (tstS (opS (isS false) (vrS 4) (cS .non))) (retS (cS .non)) skipS)
 (retS (cbS F_change_by (consS (opS ixS (vrS 0) (cS (.int 0))) (consS (varS 4) (consS (varS 2) (consS (varS 3) nilS)))))))))
def F_change_at:List T->Option T:=runB ["floor","place","pair","times","stall"] 4 B_change_at
def B_made_ready:Sm:=
 (seqS (ifS (eNotS (truS (cbS F_is_from_nought_on (consS (varS 3) nilS)))) (rzS "NoChange" "times" (varS 3)) skipS)
 (seqS (asgS 4 (cbS F_change_at (consS (varS 0) (consS (varS 1) (consS (varS 2) (consS (varS 3) nilS))))))
 (seqS (ifS (tstS (opS (isS false) (vrS 4) (cS .non))) (rzS "NoChange" "times" (varS 3)) skipS)
 (retG (varS 4)))))
def F_made_ready:List T->Option T:=runB ["floor","place","pair","times","ready"] 4 B_made_ready
def B_behind_deed:Sm:=
 (seqS (asgS 4 (opS ixS (vrS 3) (cS (.int 0))))
 (seqS (asgS 5 (opS ixS (vrS 3) (cS (.int 1))))
 (seqS (xdrpS F_check_way_from (consS (varS 0) (consS (varS 1) (consS (varS 5) nilS))))
 (seqS (xasgS 6 F_made_ready (consS (varS 0) (consS (varS 1) (consS (varS 2) (consS (varS 4) nilS)))))
 (seqS (asgS 7 (cbS F_step_by (consS (varS 0) (consS (varS 6) (consS (varS 5) nilS)))))
 (seqS (ifS (tstS (opS (isS false) (vrS 7) (cS .non))) (retG (cS .non)) skipS)
 (retG (tupS (consS (opS ixS (opS ixS (opS ixS (vrS 0) (cS (.int 2))) (vrS 5)) (cS (.int 1))) (consS (varS 7) nilS))))))))))
def F_behind_deed:List T->Option T:=runB ["floor","place","pair","deed","times","way","ready","behind"] 4 B_behind_deed
def b1_run:Sm:=
 (seqS (xasgS 5 F_behind_deed (consS (varS 0) (consS (opS ixS (vrS 5) (cS (.int 0))) (consS (opS ixS (vrS 5) (cS (.int 1))) (consS (varS 6) nilS)))))
 (seqS (appS 4 (varS 5))
 (ifS (tstS (opS (isS false) (vrS 5) (cS .non))) brkS skipS)))
def B_run:Sm:=
 (seqS (xdrpS F_check_place (consS (varS 0) (consS (varS 1) nilS)))
 (seqS (xdrpS F_check_pair (consS (varS 0) (consS (varS 2) nilS)))
 (seqS (asgO 4 (lstS nilS))
 (seqS (asgS 5 (tupS (consS (varS 1) (consS (varS 2) nilS))))
 (seqS (forS [6] (itS (varS 3)) (nmG 6) b1_run)
 (retO 4))))))
def F_run:List T->Option T:=runB ["floor","place","pair","deeds","told","stand","deed"] 4 B_run
def B_law_asked:Sm:=
 (seqS (asgS 4 (cS .non))
 (seqS (asgS 5 (cS .non))
 (seqS (tryS 6 5 (xasgS 4 F_run (consS (varS 0) (consS (varS 1) (consS (varS 2) (consS (varS 3) nilS))))))
 (retS (tupS (consS (varS 4) (consS (varS 5) nilS)))))))
def F_law_asked:List T->Option T:=runB ["_law_floor_here","_law_place","_law_pair","_law_deeds","_law_found","_law_caught","e"] 4 B_law_asked
def b1_law:Sm:=
 (seqS (asgS 8 (cbS F_law_mixed (consS (varS 0) (consS (varS 7) nilS))))
 (seqS (asgS 9 (opS ixS (lstS (consS (lstS nilS) (consS (lstS (consS (tupS (consS (cS (.int 0)) (consS (opS subT (cS (.int 0)) (cS (.int 1))) nilS))) nilS)) (consS (lstS (consS (tupS (consS (cS .non) (consS (cS .non) nilS))) nilS)) nilS)))) (opS modT (vrS 8) (cS (.int 3)))))
 (seqS (asgS 10 (opS modT (opS fdivT (vrS 8) (cS (.int 3))) (vrS 2)))
 (seqS (asgS 11 (tupS (consS (opS modT (opS fdivT (vrS 8) (cS (.int 24))) (opS addS (opS ixS (vrS 4) (cS (.int 0))) (cS (.int 1)))) (consS (opS modT (opS fdivT (vrS 8) (cS (.int 312))) (opS addS (opS ixS (vrS 4) (cS (.int 1))) (cS (.int 1)))) nilS))))
 (seqS (asgS 12 (opS modT (opS fdivT (vrS 8) (cS (.int 4096))) (cS (.int 4))))
 (seqS (ifS (eOrS (tstS (opS (eqS false) (vrS 12) (cS (.int 1)))) (tstS (opS (eqS false) (vrS 12) (cS (.int 3))))) (asgS 11 (opS ixS (vrS 6) (opS modT (opS fdivT (vrS 8) (cS (.int 16384))) (cS (.int 13))))) skipS)
 (seqS (ifS (tstS (opS gtI (vrS 12) (cS (.int 1)))) (asgS 10 (opS ixS (vrS 5) (opS modT (opS fdivT (vrS 8) (cS (.int 300000))) (cS (.int 13))))) skipS)
 (seqS (tasS (cbS F_law_asked (consS (varS 3) (consS (varS 10) (consS (varS 11) (consS (varS 9) nilS))))) (tpG 2 (consG (nmG 13) (consG (nmG 14) nilG))))
 (seqS (ifS (eAndS (tstS (opS gtI (vrS 12) (cS (.int 1)))) (eOrS (tstS (opS (eqS true) (cbS F_law_kinds (consS (varS 14) nilS)) (lstS (consS (cS (.int 2)) (consS (cS (.int 9)) (consS (cS (.int 10)) nilS)))))) (eNotS (truS (cbS F_law_like (consS (fldS "place" (vrS 14)) (consS (varS 10) nilS))))))) (retS (cS (.bl false))) skipS)
 (seqS (ifS (eAndS (tstS (opS (eqS false) (vrS 12) (cS (.int 1)))) (eOrS (tstS (opS (eqS true) (cbS F_law_kinds (consS (varS 14) nilS)) (lstS (consS (cS (.int 3)) (consS (cS (.int 9)) (consS (cS (.int 10)) nilS)))))) (eNotS (truS (cbS F_law_like (consS (fldS "pair" (vrS 14)) (consS (varS 11) nilS))))))) (retS (cS (.bl false))) skipS)
 (seqS (ifS (eAndS (tstS (opS (eqS false) (vrS 12) (cS (.int 0)))) (eAndS (tstS (opS (eqS false) (vrS 9) (lstS nilS))) (eOrS (tstS (opS (isS true) (vrS 14) (cS .non))) (tstS (opS (eqS true) (vrS 13) (lstS nilS)))))) (retS (cS (.bl false))) skipS)
 (ifS (eAndS (tstS (opS (eqS false) (vrS 12) (cS (.int 0)))) (eAndS (tstS (opS (eqS true) (vrS 9) (lstS nilS))) (tstS (opS (eqS true) (cbS F_law_kinds (consS (varS 14) nilS)) (lstS (consS (cS (.int 4)) (consS (cS (.int 9)) (consS (cS (.int 10)) nilS)))))))) (retS (cS (.bl false))) skipS))))))))))))
def B_law:Sm:=
 (seqS (asgS 1 (cbS F_law_mixed (consS (varS 0) (consS (cS (.int 0)) nilS))))
 (seqS (asgS 2 (opS addS (cS (.int 1)) (opS modT (vrS 1) (cS (.int 8)))))
 (seqS (asgS 3 (cbS F_law_floor (consS (varS 0) (consS (cS (.int 2)) (consS (varS 2) (consS (tupS (consS (opS modT (opS fdivT (vrS 1) (cS (.int 8))) (cS (.int 13))) (consS (opS modT (opS fdivT (vrS 1) (cS (.int 104))) (cS (.int 13))) nilS))) (consS (opS modT (opS fdivT (vrS 1) (cS (.int 1352))) (cS (.int 17))) nilS)))))))
 (seqS (asgS 4 (lstS (consS (opS ixS (opS ixS (vrS 3) (cS (.int 0))) (cS (.int 0))) (consS (opS ixS (opS ixS (vrS 3) (cS (.int 0))) (cS (.int 1))) nilS))))
 (seqS (asgS 5 (lstS (consS (varS 2) (consS (opS subT (cS (.int 0)) (cS (.int 1))) (consS (cS .non) (consS (cS (.bl true)) (consS (cS (.bl false)) (consS (cS (.str "0")) (consS (tupS (consS (cS (.int 0)) nilS)) (consS (lstS (consS (cS (.int 0)) nilS)) (consS (opS addS (vrS 2) (cS (.int 8))) (consS (opS powT (cS (.int 10)) (cS (.int 30))) (consS (cS (.str "keeper")) (consS (tupS nilS) (consS (cS .dic) nilS)))))))))))))))
 (seqS (asgS 6 (lstS (consS (tupS (consS (opS addS (opS ixS (vrS 4) (cS (.int 0))) (cS (.int 1))) (consS (cS (.int 0)) nilS))) (consS (tupS (consS (cS (.int 0)) (consS (opS addS (opS ixS (vrS 4) (cS (.int 1))) (cS (.int 1))) nilS))) (consS (tupS (consS (opS subT (cS (.int 0)) (cS (.int 1))) (consS (cS (.int 0)) nilS))) (consS (tupS (consS (cS (.int 0)) (consS (opS subT (cS (.int 0)) (cS (.int 1))) nilS))) (consS (tupS (consS (cS (.int 0)) nilS)) (consS (tupS (consS (cS (.int 0)) (consS (cS (.int 0)) (consS (cS (.int 0)) nilS)))) (consS (lstS (consS (cS (.int 0)) (consS (cS (.int 0)) nilS))) (consS (tupS (consS (cS (.bl true)) (consS (cS (.int 0)) nilS))) (consS (tupS (consS (cS (.int 0)) (consS (cS .non) nilS))) nilS)))))))))))
 (seqS (asgS 6 (opS addS (vrS 6) (lstS (consS (cS .non) (consS (cS (.str "00")) (consS (tupS (consS (opS powT (cS (.int 10)) (cS (.int 30))) (consS (cS (.int 0)) nilS))) (consS (cS (.int 0)) nilS)))))))
 (seqS (forS [7,8,9,10,11,12,13,14] (itA rng2 (consS (cS (.int 30)) (consS (cS (.int 62)) nilS))) (nmG 7) b1_law)
 (retS (cS (.bl true)))))))))))
def F_law:List T->Option T:=runB ["_law_script","_law_number","_law_many","_law_floor_here","_law_far","_law_places","_law_pairs","_law_k","_law_mixed_here","_law_deeds","_law_place","_law_pair","_law_way","_law_found","_law_caught"] 1 B_law
end K24
namespace K24
open PySem L2 L3 L5
noncomputable def noEr (t:T):Bool:=!isErrT t&&(match t with | .tup ts=>ts.all (λ u=>!isErrT u) | _=>true)
theorem noEr.top {t:T}(h:noEr t=true):isErrT t=false:=by
 unfold noEr at h
 simp only[Bool.and_eq_true,Bool.not_eq_true'] at h
 exact h.1
theorem noEr.mem {ts:List T}(h:noEr (.tup ts)=true) {u:T}(hu:u∈ts):isErrT u=false:=by
 simp only[noEr,Bool.and_eq_true,List.all_eq_true,Bool.not_eq_true'] at h
 exact h.2 u hu
noncomputable def wh (t:T) (a b:Int):Bool:=match t with
 | .int i=>decide (a<=i)&&decide (i<=b)
 | _=>false
theorem F_whole (t:T) (he:isErrT t=false):F_is_whole [t]=some (.bl (match t with | .int _=>true | _=>false)):=by
 cases t with
 | err _ _ _=>cases he
 | _=>simp[F_is_whole,B_is_whole,isT]
theorem F_within (t:T) (a b:Int) (he:isErrT t=false):F_is_whole_within [t,.int a,.int b]=some (.bl (wh t a b)):=by
 cases t with
 | int i=>
  unfold F_is_whole_within B_is_whole_within wh
  by_cases h1:a<=i <;> by_cases h2:i<=b <;> simp[F_whole _ he,h1,h2]
 | err _ _ _=>cases he
 | _=>simp[F_is_whole_within,B_is_whole_within,wh,F_whole _ he]
theorem eq_int (i j:Int) (neg:Bool):eqS neg (.int i) (.int j)=some (.bl (cond neg (!decide (i=j)) (decide (i=j)))):=by
 have:eqT (.int i) (.int j)=decide (i=j):=by simp[eqT,Bool.beq_eq_decide_eq]
 simp[eqS,dep,this]
theorem zip_enc {α:Type}(enc:α->T):∀ (ts:List T) (bs:List α),List.zipWith (λ a b=>T.tup [a,b]) ts (bs.map enc)=(ts.zip bs).map λ p=>T.tup [p.1,enc p.2]
 | [],bs=>by simp
 | t::ts,[]=>by simp
 | t::ts,b::bs=>by simp[zip_enc enc ts bs]
theorem bls_all {α:Type}(g:α->Bool) (xs:List α):blsT (xs.map λ x=>T.bl (g x))=some (xs.map g):=by
 have:=blsT_map (xs.map g)
 rw[List.map_map] at this
 exact this
theorem all_id {α:Type}(g:α->Bool) (xs:List α):(xs.map g).all id=xs.all g:=by
 rw[List.all_map];rfl
noncomputable def rowW (t:T) (bs:List (Int×Int)):Bool:=match t with
 | .tup ts=>decide (ts.length=bs.length)&&(ts.zip bs).all λ p=>wh p.1 p.2.1 p.2.2
 | _=>false
theorem F_row_within (t:T) (bs:List (Int×Int)) (hl:bs.length<=100) (he:noEr t=true):F_is_row_within [t,.tup (bs.map prT)]=some (.bl (rowW t bs)):=by
 cases t with
 | tup ts=>
  unfold F_is_row_within B_is_row_within rowW
  by_cases h:ts.length=bs.length
  ·have hc:c1_is_row_within [some (.im (.tup ts)),some (.im (.tup (bs.map prT)))]=some (.lst ((ts.zip bs).map λ p=>T.bl (wh p.1 p.2.1 p.2.2))):=by
    unfold c1_is_row_within
    refine lc_map (λ p:T×(Int×Int)=>T.tup [p.1,prT p.2]) _ (ts.zip bs) ?_ ?_ λ p hp=>?_
    ·simp[zip_enc]
    ·simp;omega
    ·simp[lcE,prT,F_within _ _ _ (noEr.mem he (List.of_mem_zip hp).1)]
   simp[isT,eq_int,h,hc,bls_all,all_id]
  ·have h':¬ (ts.length:Int)=bs.length:=by omega
   simp[isT,eq_int,h,h']
 | err _ _ _=>cases noEr.top he
 | _=>simp[F_is_row_within,B_is_row_within,rowW,isT]
noncomputable def upR:List (List Int)->Bool
 | a::b::l=>HT.lexLt a b&&upR (b::l)
 | _=>true
noncomputable def upN:List Int->Bool
 | a::b::l=>decide (a<b)&&upN (b::l)
 | _=>true
noncomputable def ownG (k l:Str) (t:T):Bool:=match t with
 | .str x=>k == x||l == x
 | _=>false
noncomputable def ownW (t:T):Bool:=ownG "keeper" "taker" t
noncomputable def rowOf (t:T):List Int:=match t with
 | .tup xs=>(intsT xs).getD []
 | _=>[]
theorem rowOf_row (r:List Int):rowOf (rowT r)=r:=by simp[rowOf,rowT,intsT_map]
theorem rowsOf_rows (rs:List (List Int)):(rs.map rowT).map rowOf=rs:=by
 rw[List.map_map]
 conv=>rhs;rw[<- List.map_id rs]
 exact List.map_congr_left λ r _=>rowOf_row r
noncomputable def wb (n:Int):List (Int×Int):=[(0,n-1),(0,n-1),(-12,12),(-12,12)]
noncomputable def sb (n:Int):List (Int×Int):=[(0,n-1),(0,1),(1,12),(0,12)]
noncomputable def fst (r:List Int):Int:=r.getD 0 0
noncomputable def waysW (t:T) (n:Nat):Bool:=match t with
 | .tup ts=>(ts.all λ r=>rowW r (wb n))&&(decide (ts.length<=24)&&(upR (ts.map rowOf)&&(List.range n).all λ(k:Nat)=>((ts.map rowOf).map fst).any λ i=>decide (i=(k:Int))))
 | _=>false
noncomputable def keeps (os:List T) (p:Int):Bool:=match os[p.toNat]? with
 | some (.str x)=>x == "keeper"
 | _=>false
noncomputable def stallsW (t:T) (os:List T):Bool:=match t with
 | .tup ts=>(ts.all λ r=>rowW r (sb os.length))&&(upN ((ts.map rowOf).map fst)&&((ts.map rowOf).map fst).all (keeps os))
 | _=>false
theorem eq_str (x y:Str) (neg:Bool):eqS neg (.str x) (.str y)=some (.bl (cond neg (!(x == y)) (x == y))):=by
 simp[eqS,dep,eqT]
theorem ix_own {os:List T}{p:Int}(h0:0<=p) (h1:p<os.length) (ho:os.all ownW=true) (k:Str):∃ x:Str,L2.atI os p=some (.str x)/\os[p.toNat]?=some (.str x):=by
 have hl:p.toNat<os.length:=by omega
 have e:os[p.toNat]?=some os[p.toNat]:=List.getElem?_eq_getElem hl
 have ha:L2.atI os p=some os[p.toNat]:=by
  have:=atI_natT (k:=p.toNat) e
  rw[Int.toNat_of_nonneg h0] at this
  exact this
 have hw:=List.all_eq_true.mp ho os[p.toNat] (List.getElem_mem hl)
 generalize hq:os[p.toNat]=q at *
 cases q with
 | str x=>exact⟨x,ha,e⟩
 | _=>simp[ownW,ownG] at hw
theorem rowW4 (x y z v:T) (p q r s:Int×Int):rowW (.tup [x,y,z,v]) [p,q,r,s]=(wh x p.1 p.2&&(wh y q.1 q.2&&(wh z r.1 r.2&&wh v s.1 s.2))):=by simp[rowW]
noncomputable def cellM (m:Int) (ns:List Int) (k:Nat):Int:=if k<ns.length then ns.getD k 0%m else 0
noncomputable def mixB (m a b c d e:T):Sm:=
 (seqS (asgS 2 (cS (.int 0)))
 (seqS (ifS (tstS (opS ltS (vrS 1) (cbS lenS (consS (vrS 0) nilS)))) (asgS 2 (opS modT (opS ixS (vrS 0) (vrS 1)) (opS powT (cS (.int 2)) (cS m)))) skipS)
 (retS (opS fdivT (opS modT (opS addS (opS addS (opS mulS (vrS 2) (cS a)) (opS mulS (opS mulS (cS b) (vrS 1)) (vrS 1))) (opS mulS (cS c) (vrS 1))) (cS d)) (cS e)))))
theorem mix_gen (m a b c d e:Int) (ns:List Int) (k:Nat) (hp:CPow 2 m) (hm:0<(2:Int) ^ m.toNat) (h1:∀ i,CMul i a) (h2:∀ i,CMul b i) (h3:∀ i,CMul i (k:Int)) (h4:∀ i,CMul c i) (h5:0<d) (h6:CDiv 0 e):
  outB (mixB (.int m) (.int a) (.int b) (.int c) (.int d) (.int e) [some (.im (scrT ns)),some (.im (.int k)),none])=some (.int ((cellM (2 ^ m.toNat) ns k*a+b*(k:Int)*(k:Int)+c*(k:Int))%d/e)):=by
 have h6':∀ i,CDiv i e:=λ i=>h6
 unfold mixB scrT cellM
 by_cases h:k<ns.length
 ·have q:L2.atI (ns.map T.int) (k:Int)=some (.int (ns.getD k 0)):=atI_natT (by simp[h])
  have h':(k:Int)<(ns.length:Int):=by omega
  simp[h,h',q,ltS,hp,hm,mulS,h1,h2,h3,h4,h5,h6',outB]
 ·have h':¬ (k:Int)<(ns.length:Int):=by omega
  simp[h,h',ltS,mulS,h1,h2,h3,h4,h5,h6',outB]
noncomputable def mixed (ns:List Int) (k:Nat):Int:=(cellM (2 ^ (64:Int).toNat) ns k*46337+2741*(k:Int)*(k:Int)+59*(k:Int))%2147483629/2
theorem half_lt (x d:Int) (h:0<d):0<=x%d/2/\x%d/2<d:=by
 have h1:=Int.emod_nonneg x (b:=d) (by omega)
 have h2:=Int.emod_lt_of_pos x h
 omega
theorem mixed_0 (ns:List Int) (k:Nat):0<=mixed ns k/\mixed ns k<2147483629:=half_lt _ _ (by decide)
theorem F_mixed (ns:List Int) (k:Nat) (hk:k<=1000):F_law_mixed [scrT ns,.int (k:Int)]=some (.int (mixed ns k)):=
 mix_gen 64 46337 2741 59 2147483629 2 ns k ⟨by decide,by decide,by decide⟩ (by decide) (λ i=>.inr ⟨by decide,by decide⟩) (λ i=>.inl ⟨by decide,by decide⟩) (λ i=>.inr ⟨by omega,by omega⟩) (λ i=>.inl ⟨by decide,by decide⟩) (by decide) ⟨by decide,by decide⟩
def wayOk (n:Nat) (r:List Int):Prop:=∃ a b c d:Int,r=[a,b,c,d]/\(0<=a/\a<n)/\(0<=b/\b<n)/\(-12<=c/\c<=12)/\(-12<=d/\d<=12)
theorem coin (x s:Int) (h1:1<=s) (h2:s<=12):-12<=x%(2*s+1)-s/\x%(2*s+1)-s<=12:=by
 have a:=Int.emod_nonneg x (b:=2*s+1) (by omega)
 have b:=Int.emod_lt_of_pos x (b:=2*s+1) (by omega)
 omega
theorem two (x:Int):x%2=0\/x%2=1:=by omega
theorem way_turn (ns:List Int) (at' many k:Nat) (more span:Int) (rows:List T) (ha:at' + k<=1000) (hm:1<=many) (hs1:1<=span) (hs2:span<=12) (hl:rows.length<=1000):
  ∃ a b c d m:Int,wayOk many [a,b,c,d]/\(k<many->a=k)/\turn (nmG 6) b1_law_ways (.int (0+(k:Int))) [some (.im (scrT ns)),some (.im (.int at')),some (.im (.int many)),some (.im (.int more)),some (.im (.int span)),some (.own (.lst rows)),none,none,none,none] =
   some (.nx [some (.im (scrT ns)),some (.im (.int at')),some (.im (.int many)),some (.im (.int more)),some (.im (.int span)),some (.own (.lst (rows++[rowT [a,b,c,d]]))),some (.im (.int (0+(k:Int)))),some (.im (.int m)),some (.im (.int a)),some (.own (.lst [.int c,.int d]))]):=by
 have hmx:=F_mixed ns (at' + k) ha
 have hca:((at':Int)+(k:Int))=((at' + k:Nat):Int):=by omega
 obtain⟨m0,_⟩:=mixed_0 ns (at' + k)
 generalize mixed ns (at' + k)=m at *
 have pm:(0:Int)<many:=by omega
 have pN:0<many:=hm
 have ps:0<2*span+1:=by omega
 have cm:CMul 2 span:=.inl ⟨by decide,by decide⟩
 have e1:=Int.emod_nonneg m (b:=(many:Int)) (by omega)
 have e2:=Int.emod_lt_of_pos m pm
 have e3:=Int.emod_nonneg (m/8) (b:=(many:Int)) (by omega)
 have e4:=Int.emod_lt_of_pos (m/8) pm
 have c1:=coin (m/64) span hs1 hs2
 have c2:=coin (m/2048) span hs1 hs2
 have hl':rows.length<16777216:=by omega
 have d64:CDiv m 64:=⟨by decide,by decide⟩
 have d2048:CDiv m 2048:=⟨by decide,by decide⟩
 have d65536:CDiv m 65536:=⟨by decide,by decide⟩
 have d327680:CDiv m 327680:=⟨by decide,by decide⟩
 have d8:CDiv m 8:=⟨by decide,by decide⟩
 have z2:ixN 2 0=some 0:=rfl
 have o2:ixN 2 1=some 1:=rfl
 have cc:(0:Int)+(k:Int)=(k:Int):=by omega
 rw[hca.symm] at hmx
 have st:∃ a:Int,(0<=a/\a<many)/\(k<many->a=k)/\(if (k:Int)<(many:Int) then (k:Int) else m%many)=a:=by
  by_cases hk:k<many
  ·exact⟨k,by omega,λ _=>rfl,by rw[if_pos (by omega)]⟩
  ·exact⟨m%many,⟨e1,e2⟩,λ h=>absurd h hk,by rw[if_neg (by omega)]⟩
 obtain⟨a,a1,a2,a3⟩:=st
 have fin:∀ c d:Int,(-12<=c/\c<=12)->(-12<=d/\d<=12)->wayOk many [a,m/8%many,c,d]:=λ c d h1 h2=>⟨_,_,_,_,rfl,a1,⟨e3,e4⟩,h1,h2⟩
 have zz:(-12:Int)<=0/\(0:Int)<=12:=⟨by decide,by decide⟩
 rw[cc]
 unfold turn b1_law_ways
 by_cases h5:m/65536%5=0
 ·rcases two (m/327680) with h2 | h2
  ·refine⟨a,m/8%many,0,m/2048%(2*span+1)-span,m,fin _ _ zz c2,a2,?_⟩
   by_cases hk:(k:Int)<(many:Int)
   ·rw[if_pos hk] at a3
    subst a3
    have hN:k<many:=by omega
    simp[hmx,ltS,hk,hN,pN,mulS,cm,pm,ps,d64,d2048,d65536,d327680,d8,eq_int,h5,h2,z2,rowT,hl']
   ·rw[if_neg hk] at a3
    subst a3
    have hN:¬ k<many:=by omega
    simp[hmx,ltS,hk,hN,pN,mulS,cm,pm,ps,d64,d2048,d65536,d327680,d8,eq_int,h5,h2,z2,rowT,hl']
  ·refine⟨a,m/8%many,m/64%(2*span+1)-span,0,m,fin _ _ c1 zz,a2,?_⟩
   by_cases hk:(k:Int)<(many:Int)
   ·rw[if_pos hk] at a3
    subst a3
    have hN:k<many:=by omega
    simp[hmx,ltS,hk,hN,pN,mulS,cm,pm,ps,d64,d2048,d65536,d327680,d8,eq_int,h5,h2,o2,rowT,hl']
   ·rw[if_neg hk] at a3
    subst a3
    have hN:¬ k<many:=by omega
    simp[hmx,ltS,hk,hN,pN,mulS,cm,pm,ps,d64,d2048,d65536,d327680,d8,eq_int,h5,h2,o2,rowT,hl']
 ·refine⟨a,m/8%many,m/64%(2*span+1)-span,m/2048%(2*span+1)-span,m,fin _ _ c1 c2,a2,?_⟩
  by_cases hk:(k:Int)<(many:Int)
  ·rw[if_pos hk] at a3
   subst a3
   have hN:k<many:=by omega
   simp[hmx,ltS,hk,hN,pN,mulS,cm,pm,ps,d64,d2048,d65536,d8,eq_int,h5,rowT,hl']
  ·rw[if_neg hk] at a3
   subst a3
   have hN:¬ k<many:=by omega
   simp[hmx,ltS,hk,hN,pN,mulS,cm,pm,ps,d64,d2048,d65536,d8,eq_int,h5,rowT,hl']
theorem wayOk.row {n:Nat}{r:List Int}(h:wayOk n r):rowW (rowT r) (wb n)=true:=by
 obtain⟨a,b,c,d,rfl,h1,h2,h3,h4⟩:=h
 have e:rowT [a,b,c,d]=.tup [.int a,.int b,.int c,.int d]:=rfl
 rw[e]
 unfold wb
 rw[rowW4]
 simp only[wh,Bool.and_eq_true,decide_eq_true_eq]
 omega
theorem up_of:∀ {rs:List (List Int)},rs.Pairwise (λ a b=>HT.lexLt b a=false)->rs.Nodup->upR rs=true
 | [],_,_=>rfl
 | [a],_,_=>rfl
 | a::b::l,h,nd=>by
  have h1:=List.pairwise_cons.mp h
  have n1:=List.nodup_cons.mp nd
  rw[upR,up_of h1.2 n1.2,Bool.and_true]
  cases q:HT.lexLt a b with
  | true=>rfl
  | false=>exact absurd (L4.lex_anti a b q (h1.1 b List.mem_cons_self)▸List.mem_cons_self) n1.1
theorem ints_none {r:List Int}{rs:List (List Int)}:intsT ((r::rs).map rowT)=none:=rfl
theorem sortset_rows (rs:List (List Int)) (h0:rs≠[]) (hl:rs.length<64) (hn:∀ r∈rs,r≠[]):sortsetV [.lst (rs.map rowT)]=some (.lst ((L4.sortR (nub rs)).map rowT)):=by
 cases rs with
 | nil=>exact absurd rfl h0
 | cons r rs=>
  show (match intsT ((r::rs).map rowT) with
   | some ns=>if ns.length<64 then some (T.lst ((upI ns).map T.int)) else none
   | none=>sortsetS [T.lst ((r::rs).map rowT)])=_
  rw[ints_none]
  show (rowsT ((r::rs).map rowT)).bind _=_
  rw[rowsT_map,Option.bind_some,if_pos ⟨hl,hn⟩]
theorem F_lways (ns:List Int) (at' many more:Nat) (span:Int) (ha:at'<=100) (hm:1<=many) (hm8:many<=8) (hmo:more<=16) (hs1:1<=span) (hs2:span<=12):
  ∃ rs:List (List Int),F_law_ways [scrT ns,.int at',.int many,.int more,.int span]=some (.tup (rs.map rowT))/\waysW (.tup (rs.map rowT)) many=true/\rs≠[]/\rs.length<=24/\∀ r∈rs,wayOk many r:=by
 obtain⟨ρ',h1,rows,h2,h3,h4,h5⟩:=loop_inv0 (is:=[6,7,8,9]) (g:=nmG 6) (b:=b1_law_ways) (λ k:Nat=>T.int (0+(k:Int))) (λ p ρ=>∃ rows:List (List Int),ρ=[some (.im (scrT ns)),some (.im (.int at')),some (.im (.int many)),some (.im (.int more)),some (.im (.int span)),some (.own (.lst (rows.map rowT))),none,none,none,none]/\
   rows.length=p.length/\(∀ r∈rows,wayOk many r)/\∀ k∈p,k<many->(k:Int)∈rows.map fst) (List.range (many+more)) [some (.im (scrT ns)),some (.im (.int at')),some (.im (.int many)),some (.im (.int more)),some (.im (.int span)),some (.own (.lst [])),none,none,none,none]
   ⟨[],rfl,rfl,nofun,nofun⟩ (by
  rintro p k q e ρ ⟨rows,rfl,r1,r2,r3⟩
  have hp:p.length+1<=many+more:=by
   have:=congrArg List.length e
   simp at this;omega
  have hk:k<many+more:=by
   have:k∈List.range (many+more):=by rw[e];simp
   simpa using this
  obtain⟨a,b,c,d,m,w1,w2,w3⟩:=way_turn ns at' many k more span (rows.map rowT) (by omega) hm hs1 hs2 (by simp;omega)
  refine⟨_,w3,rows++[[a,b,c,d]],by simp,by simp[r1],λ r hr=>?_,λ j hj hjm=>?_⟩
  ·rcases List.mem_append.mp hr with z | z
   ·exact r2 r z
   ·cases List.mem_singleton.mp z;exact w1
  ·rw[List.map_append]
   rcases List.mem_append.mp hj with z | z
   ·exact List.mem_append_left _ (r3 j z hjm)
   ·cases List.mem_singleton.mp z
    exact List.mem_append_right _ (by rw[<- w2 hjm];exact List.mem_cons_self))
 subst h2
 have hlen:rows.length=many+more:=by rw[h3];simp
 have hne:rows≠[]:=λ z=>by rw[z] at hlen;simp at hlen;omega
 have hrow:∀ r∈rows,r≠[]:=λ r hr=>by obtain⟨a,b,c,d,rfl,_⟩:=h4 r hr;simp
 have hss:=sortset_rows rows hne (by omega) hrow
 have hmem:∀ r,r∈L4.sortR (nub rows)↔r∈rows:=λ r=>by rw[(L4.sortR_perm _).mem_iff,mem_nub]
 have hl24:(L4.sortR (nub rows)).length<=24:=by rw[(L4.sortR_perm _).length_eq];have:=nub_length rows;omega
 refine⟨L4.sortR (nub rows),?_,?_,?_,hl24,λ r hr=>h4 r ((hmem r).mp hr)⟩
 ·obtain⟨N,hN⟩:∃ N,N=many+more:=⟨_,rfl⟩
  have hr:=rng1_nat N (by omega)
  have ee:((many:Int)+(more:Int))=(N:Int):=by omega
  rw[<- hN] at h1
  simp only[Int.zero_add] at h1 hr
  unfold F_law_ways B_law_ways
  generalize b1_law_ways=bb at h1 ⊢
  simp[ee,hr,h1,hss]
 ·simp only[waysW,rowsOf_rows,Bool.and_eq_true,decide_eq_true_eq,List.length_map]
  refine⟨List.all_eq_true.mpr λ t ht=>?_,hl24,up_of (L4.sortR_sorted _) ((L4.sortR_perm _).nodup_iff.mpr (nub_nodup rows)),List.all_eq_true.mpr λ k hk=>?_⟩
  ·obtain⟨r,hr,rfl⟩:=List.mem_map.mp ht
   exact (h4 r ((hmem r).mp hr)).row
  ·have hk':k<many:=by simpa using hk
   have:=h5 k (by simp;omega) hk'
   obtain⟨r,hr,e⟩:=List.mem_map.mp this
   exact List.any_eq_true.mpr ⟨fst r,List.mem_map.mpr ⟨r,(hmem r).mpr hr,rfl⟩,by simp[e]⟩
 ·intro z
  cases hr:rows with
  | nil=>exact hne hr
  | cons r l=>
   have:r∈L4.sortR (nub rows):=(hmem r).mpr (by rw[hr];exact List.mem_cons_self)
   rw[z] at this;cases this
def stOk (os:List T) (r:List Int):Prop:=∃ a b c d:Int,r=[a,b,c,d]/\(0<=a/\a<os.length)/\(0<=b/\b<=1)/\(1<=c/\c<=12)/\(0<=d/\d<=12)/\keeps os a=true
theorem stOk.row {os:List T}{r:List Int}(h:stOk os r):rowW (rowT r) (sb os.length)=true:=by
 obtain⟨a,b,c,d,rfl,h1,h2,h3,h4,_⟩:=h
 have e:rowT [a,b,c,d]=.tup [.int a,.int b,.int c,.int d]:=rfl
 rw[e]
 unfold sb
 rw[rowW4]
 simp only[wh,Bool.and_eq_true,decide_eq_true_eq]
 omega
theorem upN_snoc:∀ (ns:List Int) (x:Int),upN ns=true->(∀ n∈ns,n<x)->upN (ns++[x])=true
 | [],x,_,_=>rfl
 | [a],x,_,h=>by simp[upN];exact h a List.mem_cons_self
 | a::b::l,x,h,hx=>by
  have h':decide (a<b)=true/\upN (b::l)=true:=by simpa [upN] using h
  have ih:=upN_snoc (b::l) x h'.2 λ n hn=>hx n (List.mem_cons_of_mem _ hn)
  show (decide (a<b)&&upN ((b::l)++[x]))=true
  rw[h'.1,ih];rfl
theorem stall_turn (os:List T) (k:Nat) (hk:k<os.length) (s kk:Str) (hs:L2.atI os (k:Int)=some (.str s)) (cell:Int) (rows:List T) (hl:rows.length<=1000) (bb:Sm)
  (hb:bb=(seqS (ifS (eAndS (tstS (opS (eqS false) (opS ixS (vrS 1) (vrS 3)) (cS (.str kk)))) (tstS (opS (eqS false) (opS modT (vrS 0) (cS (.int 2))) (cS (.int 1))))) (appS 2 (tupS (consS (varS 3) (consS (opS modT (opS fdivT (vrS 0) (cS (.int 2))) (cS (.int 2))) (consS (opS addS (cS (.int 1)) (opS modT (opS fdivT (vrS 0) (cS (.int 4))) (cS (.int 12)))) (consS (opS modT (opS fdivT (vrS 0) (cS (.int 48))) (cS (.int 13))) nilS)))))) skipS)
 (asgS 0 (opS fdivT (vrS 0) (cS (.int 624)))))):
  turn (nmG 3) bb (.int (0+(k:Int))) [some (.im (.int cell)),some (.im (.lst os)),some (.own (.lst rows)),none]=some (.nx [some (.im (.int (cell/624))),some (.im (.lst os)),some (.own (.lst (rows++(if (s == kk)=true/\cell%2=1 then [rowT [(k:Int),cell/2%2,1+cell/4%12,cell/48%13]] else [])))),some (.im (.int (k:Int)))]):=by
 have hl':rows.length<16777216:=by omega
 have d624:CDiv cell 624:=⟨by decide,by decide⟩
 have d2:CDiv cell 2:=⟨by decide,by decide⟩
 have d4:CDiv cell 4:=⟨by decide,by decide⟩
 have d48:CDiv cell 48:=⟨by decide,by decide⟩
 have cc:(0:Int)+(k:Int)=(k:Int):=by omega
 rw[cc]
 subst hb
 unfold turn
 cases hq:(s == kk)
 ·simp[hs,eq_str,hq,d624]
 ·by_cases h2:cell%2=1
  ·simp[hs,eq_str,hq,eq_int,h2,d624,d2,d4,d48,hl',rowT]
  ·simp[hs,eq_str,hq,eq_int,h2,d624]
theorem F_lstalls (cell:Int) (os:List T) (ho:os.all ownW=true) (h8:os.length<=8):∃ qs:List (List Int),F_law_stalls [.int cell,.lst os]=some (.tup (qs.map rowT))/\stallsW (.tup (qs.map rowT)) os=true/\qs.length<=8:=by
 obtain⟨ρ',h1,c',qs,h2,h3,h4,h5,h6⟩:=loop_inv0 (is:=[3]) (g:=nmG 3) (b:=b1_law_stalls) (λ k:Nat=>T.int (0+(k:Int))) (λ p ρ=>∃ (c:Int) (qs:List (List Int)),ρ=[some (.im (.int c)),some (.im (.lst os)),some (.own (.lst (qs.map rowT))),none]/\qs.length<=p.length/\(∀ r∈qs,stOk os r)/\upN (qs.map fst)=true/\∀ n∈qs.map fst,n<(p.length:Int))
   (List.range os.length) [some (.im (.int cell)),some (.im (.lst os)),some (.own (.lst [])),none] ⟨cell,[],rfl,Nat.le_refl _,nofun,rfl,nofun⟩ (by
  rintro p k q e ρ ⟨c,qs,rfl,r1,r2,r3,r4⟩
  have hpk:p.length=k:=by
   have h:=congrArg (λ l=>l[p.length]?) e
   have hp:p.length<os.length:=by have:=congrArg List.length e;simp at this;omega
   simp[hp] at h
   exact h
  have hk:k<os.length:=by
   have:k∈List.range os.length:=by rw[e];simp
   simpa using this
  obtain⟨s,s1,s2⟩:=ix_own (os:=os) (p:=(k:Int)) (by omega) (by omega) ho "keeper"
  have tn:=stall_turn os k hk s "keeper" s1 c (qs.map rowT) (by simp;omega) b1_law_stalls rfl
  have ek:keeps os (k:Int)=(s == "keeper"):=by unfold keeps;rw[s2]
  by_cases hc:(s == "keeper")=true/\c%2=1
  ·rw[if_pos hc] at tn
   refine⟨_,tn,c/624,qs++[[(k:Int),c/2%2,1+c/4%12,c/48%13]],by simp,by simp;omega,λ r hr=>?_,?_,λ n hn=>?_⟩
   ·rcases List.mem_append.mp hr with z | z
    ·exact r2 r z
    ·cases List.mem_singleton.mp z
     exact⟨_,_,_,_,rfl,by omega,by omega,by omega,by omega,by rw[ek];exact hc.1⟩
   ·rw[List.map_append]
    refine upN_snoc _ _ r3 λ n hn=>?_
    have:=r4 n hn
    show n<(k:Int)
    omega
   ·rw[List.map_append] at hn
    rcases List.mem_append.mp hn with z | z
    ·have:=r4 n z;simp;omega
    ·have:n=(k:Int):=by simpa [fst] using z
     simp;omega
  ·rw[if_neg hc,List.append_nil] at tn
   exact⟨_,tn,c/624,qs,by simp,by simp;omega,r2,r3,λ n hn=>by have:=r4 n hn;simp;omega⟩)
 subst h2
 refine⟨qs,?_,?_,by simp at h3;omega⟩
 ·have hr:=rng1_nat os.length (by omega)
  simp only[Int.zero_add] at h1 hr
  unfold F_law_stalls B_law_stalls
  generalize b1_law_stalls=bb at h1 ⊢
  simp[hr,h1]
 ·simp only[stallsW,rowsOf_rows,h5,Bool.true_and,Bool.and_eq_true]
  refine⟨List.all_eq_true.mpr λ t ht=>?_,List.all_eq_true.mpr λ n hn=>?_⟩
  ·obtain⟨r,hr,rfl⟩:=List.mem_map.mp ht
   exact (h4 r hr).row
  ·obtain⟨r,hr,rfl⟩:=List.mem_map.mp hn
   obtain⟨a,b,c,d,rfl,_,_,_,_,h⟩:=h4 r hr
   exact h
noncomputable def scB (b m e:T):Sm:=
 (seqS (ifS (eAndS (truS (vrS 2)) (tstS (opS ltS (vrS 1) (cbS lenS (consS (vrS 0) nilS))))) (retS (opS modT (opS ixS (vrS 0) (vrS 1)) (opS powT (cS b) (cS m)))) skipS)
 (seqS (asgS 3 (cbS F_law_mixed (consS (varS 0) (consS (varS 1) nilS))))
 (retS (opS addS (opS mulS (opS mulS (vrS 3) (vrS 3)) (vrS 3)) (opS mulS (cS e) (vrS 3))))))
theorem sc_gen (b m e:Int) (ns:List Int) (k:Nat) (d:Bool) (hk:k<=1000) (hp:CPow b m) (hm:0<b ^ m.toNat) (he:∀ i,CMul e i) (hx:∀ i j:Int,0<=i->i<2147483629->CMul j i):
  ∃ c,outB (scB (.int b) (.int m) (.int e) [some (.im (scrT ns)),some (.im (.int k)),some (.im (.bl d)),none])=some (.int c):=by
 have hmx:=F_mixed ns k hk
 obtain⟨m0,m1⟩:=mixed_0 ns k
 generalize mixed ns k=q at *
 have x1:=hx q q m0 m1
 have x2:=hx q (q*q) m0 m1
 unfold scB scrT at *
 cases d
 ·exact⟨_,by simp[hmx,mulS,x1,x2,he,outB];rfl⟩
 ·by_cases h:k<ns.length
  ·have z:L2.atI (ns.map T.int) (k:Int)=some (.int (ns.getD k 0)):=atI_natT (by simp[h])
   have h':(k:Int)<(ns.length:Int):=by omega
   exact⟨_,by simp[h,h',z,ltS,hp,hm,outB];rfl⟩
  ·have h':¬ (k:Int)<(ns.length:Int):=by omega
   exact⟨_,by simp[h,h',ltS,hmx,mulS,x1,x2,he,outB];rfl⟩
theorem F_stall_cell (ns:List Int) (k:Nat) (d:Bool) (hk:k<=1000):∃ c,F_law_stall_cell [scrT ns,.int (k:Int),.bl d]=some (.int c):=
 sc_gen 10 64 104729 ns k d hk ⟨by decide,by decide,by decide⟩ (by decide) (λ i=>.inl ⟨by decide,by decide⟩) (λ i j h1 h2=>.inr ⟨by omega,by omega⟩)
theorem and1 (x:Int) (h:0<=x):Builtin.bitAnd x 1=0\/Builtin.bitAnd x 1=1:=by
 have e:Builtin.bitAnd x 1=((x.toNat &&& 1:Nat):Int):=by
  unfold Builtin.bitAnd
  simp[h]
 rw[e,Nat.and_one_is_mod]
 omega
noncomputable def kt (b:Bool):T:=cond b (.str "keeper") (.str "taker")
theorem kt_own (b:Bool):ownW (kt b)=true:=by cases b <;> decide
theorem own_turn (k l:Str) (s a m b e x:T) (p:Nat) (num:Int) (h0:0<=num) (rows:List T) (hl:rows.length<=1000) (u v:Option W) (bb:Sm)
  (hb:bb=(appS 6 (opS ixS (lstS (consS (cS (.str k)) (consS (cS (.str l)) nilS))) (opS bandT (opS shrT (vrS 5) (vrS 7)) (cS (.int 1)))))):
  ∃ y,(y=.str k\/y=.str l)/\turn (nmG 7) bb (.int (0+(p:Int))) [some (.im s),some (.im a),some (.im m),some (.im b),some (.im e),some (.im (.int num)),some (.own (.lst rows)),none,u,v] =
   some (.nx [some (.im s),some (.im a),some (.im m),some (.im b),some (.im e),some (.im (.int num)),some (.own (.lst (rows++[y]))),some (.im (.int (p:Int))),u,v]):=by
 have hl':rows.length<16777216:=by omega
 have cc:(0:Int)+(p:Int)=(p:Int):=by omega
 have hq:0<=num/2 ^ (p:Int).toNat:=Int.ediv_nonneg h0 (Int.pow_nonneg (by decide))
 rw[cc]
 subst hb
 unfold turn
 have tn:(p:Int).toNat=p:=by simp
 rw[tn] at hq
 rcases and1 _ hq with h | h
 ·exact⟨.str k,.inl rfl,by simp[h,hl']⟩
 ·exact⟨.str l,.inr rfl,by simp[h,hl']⟩
theorem four (x:Int):x%4=0\/x%4=1\/x%4=2\/x%4=3:=by omega
theorem F_lfloor (ns:List Int) (at' many more:Nat) (br:T) (ha:at'<=50) (hm:1<=many) (hm8:many<=8) (hmo:more<=16):
  ∃ (os:List T) (rs qs:List (List Int)),F_law_floor [scrT ns,.int at',.int many,br,.int more]=some (.tup [br,.tup os,.tup (rs.map rowT),.tup (qs.map rowT)])/\os.length=many/\os.all ownW=true/\
   waysW (.tup (rs.map rowT)) many=true/\stallsW (.tup (qs.map rowT)) os=true/\rs≠[]/\rs.length<=24/\qs.length<=8/\∀ r∈rs,wayOk many r:=by
 have hmx:=F_mixed ns at' (by omega)
 obtain⟨m0,m1⟩:=mixed_0 ns at'
 generalize mixed ns at'=num at *
 obtain⟨ρ',h1,os,h2,h3,h4⟩:=loop_inv0 (is:=[7]) (g:=nmG 7) (b:=b1_law_floor) (λ k:Nat=>T.int (0+(k:Int))) (λ p ρ=>∃ os:List T,ρ=[some (.im (scrT ns)),some (.im (.int at')),some (.im (.int many)),some (.im br),some (.im (.int more)),some (.im (.int num)),some (.own (.lst os)),none,none,none]/\os.length=p.length/\os.all ownW=true)
   (List.range many) [some (.im (scrT ns)),some (.im (.int at')),some (.im (.int many)),some (.im br),some (.im (.int more)),some (.im (.int num)),some (.own (.lst [])),none,none,none] ⟨[],rfl,rfl,rfl⟩ (by
  rintro p k q e ρ ⟨os,rfl,r1,r2⟩
  have hp:p.length<many:=by have:=congrArg List.length e;simp at this;omega
  obtain⟨y,y1,y2⟩:=own_turn "keeper" "taker" (scrT ns) (.int at') (.int many) br (.int more) (.int 0) k num m0 os (by omega) none none b1_law_floor rfl
  refine⟨_,y2,os++[y],rfl,by simp[r1],?_⟩
  rw[List.all_append,r2]
  rcases y1 with z | z
  ·subst z;exact kt_own true
  ·subst z;exact kt_own false)
 subst h2
 have hos:os.length=many:=by simpa using h3
 have d256:CDiv num 256:=⟨by decide,by decide⟩
 have d1024:CDiv num 1024:=⟨by decide,by decide⟩
 have d3072:CDiv num 3072:=⟨by decide,by decide⟩
 obtain⟨span,s1,s2,s3⟩:∃ span:Int,1<=span/\span<=12/\L2.atI [T.int 1,.int 2,.int 3,.int 12] (num/256%4)=some (.int span):=by
  rcases four (num/256) with h | h | h | h <;> rw[h]
  ·exact⟨1,by decide,by decide,rfl⟩
  ·exact⟨2,by decide,by decide,rfl⟩
  ·exact⟨3,by decide,by decide,rfl⟩
  ·exact⟨12,by decide,by decide,rfl⟩
 obtain⟨rs,w1,w2,w3,w4,w5⟩:=F_lways ns (at' + 2) many more span (by omega) hm hm8 hmo s1 s2
 obtain⟨cell,c1⟩:=F_stall_cell ns (at' + 1) (decide (num/3072%2=1)) (by omega)
 obtain⟨qs,q1,q2,q3⟩:=F_lstalls cell os h4 (by omega)
 have hr:=rng1_nat many (by omega)
 simp only[Int.zero_add] at h1 hr
 have e1:((at' + 1:Nat):Int)=(at':Int)+1:=by omega
 have e2:((at' + 2:Nat):Int)=(at':Int)+2:=by omega
 rw[e1] at c1
 rw[e2] at w1
 by_cases hst:num/1024%3=1
 ·refine⟨os,rs,qs,?_,hos,h4,w2,q2,w3,w4,q3,w5⟩
  unfold F_law_floor B_law_floor
  generalize b1_law_floor=bb at h1 ⊢
  simp[hmx,hr,h1,d256,d1024,d3072,s3,eq_int,hst,c1,q1,w1]
 ·refine⟨os,rs,[],?_,hos,h4,w2,?_,w3,w4,by simp,w5⟩
  ·unfold F_law_floor B_law_floor
   generalize b1_law_floor=bb at h1 ⊢
   simp[hmx,hr,h1,d256,d1024,s3,eq_int,hst,w1]
  ·simp[stallsW,upN]
end K24
namespace K24
open PySem L2 L3 L5
abbrev flT (b0 b1:Int) (os:List T) (rs qs:List (List Int)):T:=.tup [prT (b0,b1),.tup os,.tup (rs.map rowT),.tup (qs.map rowT)]
section
variable (b0 b1:Int) (os:List T) (rs qs:List (List Int))
theorem F_cplace (y:T) (he:isErrT y=false):F_check_place [flT b0 b1 os rs qs,y]=some (if wh y 0 ((os.length:Int)-1)=true then .non else .err "NoPlace" "place" y):=by
 have h:=F_within y 0 ((os.length:Int)-1) he
 have w1:ixS (flT b0 b1 os rs qs) (.int 1)=some (.tup os):=rfl
 have hp:F_places_of [flT b0 b1 os rs qs]=some (.int (os.length:Int)):=by
  unfold F_places_of B_places_of
  generalize flT b0 b1 os rs qs=fl at *
  simp only[ixS] at w1
  simp[w1]
 unfold F_check_place B_check_place
 generalize flT b0 b1 os rs qs=fl at *
 cases q:wh y 0 ((os.length:Int)-1) <;> simp[hp,h,q]
theorem F_cpair (y:T) (he:noEr y=true):F_check_pair [flT b0 b1 os rs qs,y]=some (if rowW y [(0,b0),(0,b1)]=true then .non else .err "NoPair" "pair" y):=by
 have h:=F_row_within y [(0,b0),(0,b1)] (by show 2<=100;decide) he
 simp only[List.map_cons,List.map_nil,prT] at h
 unfold F_check_pair B_check_pair
 cases q:rowW y [(0,b0),(0,b1)] <;> simp[prT,h,q]
theorem F_isway (y:T) (he:isErrT y=false):F_is_way [flT b0 b1 os rs qs,y]=some (.bl (wh y 0 ((rs.length:Int)-1))):=by
 have w2:ixS (flT b0 b1 os rs qs) (.int 2)=some (.tup (rs.map rowT)):=rfl
 unfold F_is_way B_is_way
 generalize flT b0 b1 os rs qs=fl at *
 simp only[ixS] at w2
 simp[w2,F_within _ _ _ he]
end
theorem kC2 (a:Option W):c1_law_kinds [a,some (.im (.lst [.bl false,.bl false,.bl true,.bl false,.bl false,.bl false,.bl false,.bl false,.bl false,.bl true,.bl true]))]=some (.lst [.int 2,.int 9,.int 10]):=by
 have r:=rng1_nat 11 (by decide)
 rw[show List.range 11=[0,1,2,3,4,5,6,7,8,9,10] from rfl,show ((11:Nat):Int)=11 from rfl] at r
 unfold c1_law_kinds lcS
 simp[r,compL]
 rfl
theorem F_kinds2 (y:T):F_law_kinds [.err "NoPlace" "place" y]=some (.lst [.int 2,.int 9,.int 10]):=by
 have k0:isO "NoFloor" "NoPlace"=false:=by decide
 have k1:isO "NoMore" "NoPlace"=false:=by decide
 have k2:isO "NoPlace" "NoPlace"=true:=by decide
 have k3:isO "NoPair" "NoPlace"=false:=by decide
 have k4:isO "NoWay" "NoPlace"=false:=by decide
 have k5:isO "NoChange" "NoPlace"=false:=by decide
 have k6:isO "NoCount" "NoPlace"=false:=by decide
 have k7:isO "NoName" "NoPlace"=false:=by decide
 have k8:isO "NoRow" "NoPlace"=false:=by decide
 have k9:isO "PurseError" "NoPlace"=true:=by decide
 have hc:∀ a:Option W,c1_law_kinds [a,some (.im (.lst [.bl false,.bl false,.bl true,.bl false,.bl false,.bl false,.bl false,.bl false,.bl false,.bl true,.bl true]))]=some (.lst [.int 2,.int 9,.int 10]):=kC2
 unfold F_law_kinds B_law_kinds
 generalize c1_law_kinds=cc at *
 simp[k0,k1,k2,k3,k4,k5,k6,k7,k8,k9,hc]
theorem kC3 (a:Option W):c1_law_kinds [a,some (.im (.lst [.bl false,.bl false,.bl false,.bl true,.bl false,.bl false,.bl false,.bl false,.bl false,.bl true,.bl true]))]=some (.lst [.int 3,.int 9,.int 10]):=by
 have r:=rng1_nat 11 (by decide)
 rw[show List.range 11=[0,1,2,3,4,5,6,7,8,9,10] from rfl,show ((11:Nat):Int)=11 from rfl] at r
 unfold c1_law_kinds lcS
 simp[r,compL]
 rfl
theorem F_kinds3 (y:T):F_law_kinds [.err "NoPair" "pair" y]=some (.lst [.int 3,.int 9,.int 10]):=by
 have k0:isO "NoFloor" "NoPair"=false:=by decide
 have k1:isO "NoMore" "NoPair"=false:=by decide
 have k2:isO "NoPlace" "NoPair"=false:=by decide
 have k3:isO "NoPair" "NoPair"=true:=by decide
 have k4:isO "NoWay" "NoPair"=false:=by decide
 have k5:isO "NoChange" "NoPair"=false:=by decide
 have k6:isO "NoCount" "NoPair"=false:=by decide
 have k7:isO "NoName" "NoPair"=false:=by decide
 have k8:isO "NoRow" "NoPair"=false:=by decide
 have k9:isO "PurseError" "NoPair"=true:=by decide
 have hc:∀ a:Option W,c1_law_kinds [a,some (.im (.lst [.bl false,.bl false,.bl false,.bl true,.bl false,.bl false,.bl false,.bl false,.bl false,.bl true,.bl true]))]=some (.lst [.int 3,.int 9,.int 10]):=kC3
 unfold F_law_kinds B_law_kinds
 generalize c1_law_kinds=cc at *
 simp[k0,k1,k2,k3,k4,k5,k6,k7,k8,k9,hc]
theorem kC4 (a:Option W):c1_law_kinds [a,some (.im (.lst [.bl false,.bl false,.bl false,.bl false,.bl true,.bl false,.bl false,.bl false,.bl false,.bl true,.bl true]))]=some (.lst [.int 4,.int 9,.int 10]):=by
 have r:=rng1_nat 11 (by decide)
 rw[show List.range 11=[0,1,2,3,4,5,6,7,8,9,10] from rfl,show ((11:Nat):Int)=11 from rfl] at r
 unfold c1_law_kinds lcS
 simp[r,compL]
 rfl
theorem F_kinds4 (y:T):F_law_kinds [.err "NoWay" "way" y]=some (.lst [.int 4,.int 9,.int 10]):=by
 have k0:isO "NoFloor" "NoWay"=false:=by decide
 have k1:isO "NoMore" "NoWay"=false:=by decide
 have k2:isO "NoPlace" "NoWay"=false:=by decide
 have k3:isO "NoPair" "NoWay"=false:=by decide
 have k4:isO "NoWay" "NoWay"=true:=by decide
 have k5:isO "NoChange" "NoWay"=false:=by decide
 have k6:isO "NoCount" "NoWay"=false:=by decide
 have k7:isO "NoName" "NoWay"=false:=by decide
 have k8:isO "NoRow" "NoWay"=false:=by decide
 have k9:isO "PurseError" "NoWay"=true:=by decide
 have hc:∀ a:Option W,c1_law_kinds [a,some (.im (.lst [.bl false,.bl false,.bl false,.bl false,.bl true,.bl false,.bl false,.bl false,.bl false,.bl true,.bl true]))]=some (.lst [.int 4,.int 9,.int 10]):=kC4
 unfold F_law_kinds B_law_kinds
 generalize c1_law_kinds=cc at *
 simp[k0,k1,k2,k3,k4,k5,k6,k7,k8,k9,hc]
theorem F_like (y:T) (h:eqDV y y=some (.bl true)) (hd:(tyT y).isSome=true):F_law_like [y,y]=some (.bl true):=by
 obtain⟨t,ht⟩:=Option.isSome_iff_exists.mp hd
 have e2:∀ b:Bool,eqS true (.bl b) (.bl b)=some (.bl false):=λ b=>by cases b <;> rfl
 unfold F_law_like B_law_like
 simp[-tyT,ht,h,e2]
theorem eqD_of (y:T) (h:dep y<=60\/y=.dic):eqDV y y=some (.bl true):=by
 rcases h with h | h
 ·have e:eqS false y y=some (.bl true):=by unfold eqS;rw[if_pos ⟨h,h⟩,eqT_refl];rfl
  unfold eqDV
  split
  ·rfl
  ·exact e
 ·subst h;rfl
section
variable (b0 b1:Int) (os:List T) (rs qs:List (List Int))
theorem F_runE2 (pl pr ds:T) (e1:isErrT pl=false) (h1:wh pl 0 ((os.length:Int)-1)=false):F_run [flT b0 b1 os rs qs,pl,pr,ds]=some (.err "NoPlace" "place" pl):=by
 have f1:=F_cplace b0 b1 os rs qs pl e1
 rw[if_neg (by rw[h1];decide)] at f1
 generalize flT b0 b1 os rs qs=fl at *
 unfold F_run B_run
 simp[f1]
theorem F_runE3 (pl pr ds:T) (e1:isErrT pl=false) (e2:noEr pr=true) (h1:wh pl 0 ((os.length:Int)-1)=true) (h2:rowW pr [(0,b0),(0,b1)]=false):F_run [flT b0 b1 os rs qs,pl,pr,ds]=some (.err "NoPair" "pair" pr):=by
 have f1:=F_cplace b0 b1 os rs qs pl e1
 have f2:=F_cpair b0 b1 os rs qs pr e2
 rw[if_pos h1] at f1
 rw[if_neg (by rw[h2];decide)] at f2
 generalize flT b0 b1 os rs qs=fl at *
 unfold F_run B_run
 simp[f1,f2]
theorem F_run0 (pl pr:T) (e1:isErrT pl=false) (e2:noEr pr=true) (h1:wh pl 0 ((os.length:Int)-1)=true) (h2:rowW pr [(0,b0),(0,b1)]=true):F_run [flT b0 b1 os rs qs,pl,pr,.lst []]=some (.lst []):=by
 have f1:=F_cplace b0 b1 os rs qs pl e1
 have f2:=F_cpair b0 b1 os rs qs pr e2
 rw[if_pos h1] at f1
 rw[if_pos h2] at f2
 generalize flT b0 b1 os rs qs=fl at *
 have lp:loopS [6] (nmG 6) b1_run [] [some (.im fl),some (.im pl),some (.im pr),some (.im (.lst [])),some (.own (.lst [])),some (.im (.tup [pl,pr])),none]=some (.nx [some (.im fl),some (.im pl),some (.im pr),some (.im (.lst [])),some (.own (.lst [])),some (.im (.tup [pl,pr])),none]):=by rw[loopS];rfl
 unfold F_run B_run
 generalize b1_run=bb at *
 simp[f1,f2,lp]
theorem F_run1 (pl pr t w:T) (e1:isErrT pl=false) (e2:noEr pr=true) (e3:isErrT w=false) (h1:wh pl 0 ((os.length:Int)-1)=true) (h2:rowW pr [(0,b0),(0,b1)]=true) (h3:wh w 0 ((rs.length:Int)-1)=false):F_run [flT b0 b1 os rs qs,pl,pr,.lst [.tup [t,w]]]=some (.err "NoWay" "way" w):=by
 have f1:=F_cplace b0 b1 os rs qs pl e1
 have f2:=F_cpair b0 b1 os rs qs pr e2
 have f3:=F_isway b0 b1 os rs qs w e3
 rw[if_pos h1] at f1
 rw[if_pos h2] at f2
 rw[h3] at f3
 generalize flT b0 b1 os rs qs=fl at *
 have f4:F_check_way_from [fl,pl,w]=some (.err "NoWay" "way" w):=by
  unfold F_check_way_from B_check_way_from
  simp[f3]
 have f5:F_behind_deed [fl,pl,pr,.tup [t,w]]=some (.err "NoWay" "way" w):=by
  unfold F_behind_deed B_behind_deed
  simp[f4]
 have tn:turn (nmG 6) b1_run (.tup [t,w]) [some (.im fl),some (.im pl),some (.im pr),some (.im (.lst [.tup [t,w]])),some (.own (.lst [])),some (.im (.tup [pl,pr])),none]=some (.rt (.err "NoWay" "way" w)):=by
  unfold turn b1_run
  simp[f5]
 have lp:loopS [6] (nmG 6) b1_run [.tup [t,w]] [some (.im fl),some (.im pl),some (.im pr),some (.im (.lst [.tup [t,w]])),some (.own (.lst [])),some (.im (.tup [pl,pr])),none]=some (.rt (.err "NoWay" "way" w)):=by
  rw[loop_cons]
  show (turn (nmG 6) b1_run (.tup [t,w]) [some (.im fl),some (.im pl),some (.im pr),some (.im (.lst [.tup [t,w]])),some (.own (.lst [])),some (.im (.tup [pl,pr])),none]).bind _=_
  rw[tn];rfl
 unfold F_run B_run
 generalize b1_run=bb at *
 simp[f1,f2,lp]
end
theorem F_askE (f pl pr ds c:T) (h:F_run [f,pl,pr,ds]=some c) (he:isErrT c=true):F_law_asked [f,pl,pr,ds]=some (.tup [.non,c]):=by
 unfold F_law_asked B_law_asked
 simp[h,he]
theorem F_ask0 (f pl pr ds c:T) (h:F_run [f,pl,pr,ds]=some c) (he:isErrT c=false):F_law_asked [f,pl,pr,ds]=some (.tup [c,.non]):=by
 unfold F_law_asked B_law_asked
 simp[h,he]
end K24
namespace K24
open PySem L2 L3 L5
theorem at_in {L:List T}{i:Int}(h0:0<=i) (h1:i<L.length):∃ w∈L,L2.atI L i=some w:=by
 obtain⟨j,rfl⟩:∃ j:Nat,(j:Int)=i:=⟨i.toNat,by omega⟩
 have hj:j<L.length:=by omega
 exact⟨L[j],List.getElem_mem hj,atI_natT (by simp[hj])⟩
section
variable (b0 b1:Int) (os:List T) (rs qs:List (List Int))
theorem b1_turn (ns:List Int) (nu:T) (PL PR:List T) (hPL:∀ w∈PL,wh w 0 ((os.length:Int)-1)=false/\(dep w<=60\/w=.dic)/\(tyT w).isSome=true/\isErrT w=false) (lPL:PL.length=13)
  (hPR:∀ w∈PR,rowW w [(0,b0),(0,b1)]=false/\(dep w<=60\/w=.dic)/\(tyT w).isSome=true/\noEr w=true) (lPR:PR.length=13) (h0:0<=b0/\b0<=12) (h1:0<=b1/\b1<=12) (ho:1<=os.length) (hr:1<=rs.length) (k:Nat) (hk:k<=100):
  ∃ a b c d e g h:T,∃ x:T,turn (nmG 7) b1_law (.int ((30:Int)+(k:Int))) [some (.im (scrT ns)),some (.im nu),some (.im (.int (os.length:Int))),some (.im (flT b0 b1 os rs qs)),some (.im (.lst [.int b0,.int b1])),some (.im (.lst PL)),some (.im (.lst PR)),none,none,none,none,none,none,none,none] =
   some (.nx [some (.im (scrT ns)),some (.im nu),some (.im (.int (os.length:Int))),some (.im (flT b0 b1 os rs qs)),some (.im (.lst [.int b0,.int b1])),some (.im (.lst PL)),some (.im (.lst PR)),some (.im x),some (.im a),some (.im b),some (.im c),some (.im d),some (.im e),some (.im g),some (.im h)]):=by
 have fm:=F_mixed ns (30+k) (by omega)
 have e:((30+k:Nat):Int)=(30:Int)+(k:Int):=by omega
 rw[e] at fm
 obtain⟨m0,m1⟩:=mixed_0 ns (30+k)
 generalize mixed ns (30+k)=m at *
 have d3:CDiv m 3:=⟨by decide,by decide⟩
 have d24:CDiv m 24:=⟨by decide,by decide⟩
 have d312:CDiv m 312:=⟨by decide,by decide⟩
 have d4096:CDiv m 4096:=⟨by decide,by decide⟩
 have d16384:CDiv m 16384:=⟨by decide,by decide⟩
 have d3e5:CDiv m 300000:=⟨by decide,by decide⟩
 have p0:0<b0+1:=by omega
 have p1:0<b1+1:=by omega
 have pm:0<(os.length:Int):=by omega
 have pm2:0<os.length:=ho
 obtain⟨w2,m2,a2⟩:=at_in (L:=PR) (i:=m/16384%13) (by omega) (by rw[lPR];omega)
 obtain⟨w1,mm1,a1⟩:=at_in (L:=PL) (i:=m/300000%13) (by omega) (by rw[lPL];omega)
 obtain⟨b1',b2',b3',b4'⟩:=hPL w1 mm1
 obtain⟨c1,c2,c3,c4⟩:=hPR w2 m2
 obtain⟨p,hp⟩:∃ p,p=m/3%(os.length:Int):=⟨_,rfl⟩
 have gp:wh (.int p) 0 ((os.length:Int)-1)=true:=by
  have q1:=Int.emod_nonneg (m/3) (b:=(os.length:Int)) (by omega)
  have q2:=Int.emod_lt_of_pos (m/3) (b:=(os.length:Int)) (by omega)
  simp[wh];omega
 obtain⟨x,hx⟩:∃ x,x=m/24%(b0+1):=⟨_,rfl⟩
 obtain⟨y,hy⟩:∃ x,x=m/312%(b1+1):=⟨_,rfl⟩
 have gr:rowW (.tup [.int x,.int y]) [(0,b0),(0,b1)]=true:=by
  have q1:=Int.emod_nonneg (m/24) (b:=b0+1) (by omega)
  have q2:=Int.emod_lt_of_pos (m/24) (b:=b0+1) (by omega)
  have q3:=Int.emod_nonneg (m/312) (b:=b1+1) (by omega)
  have q4:=Int.emod_lt_of_pos (m/312) (b:=b1+1) (by omega)
  simp[rowW,wh];omega
 obtain⟨D,hD,hDa⟩:∃ D:List T,(D=[]\/D=[.tup [.int 0,.int (-1)]]\/D=[.tup [.non,.non]])/\L2.atI [T.lst [],.lst [.tup [.int 0,.int (-1)]],.lst [.tup [.non,.non]]] (m%3)=some (.lst D):=by
  have:m%3=0\/m%3=1\/m%3=2:=by omega
  rcases this with h | h | h <;> rw[h]
  ·exact⟨_,.inl rfl,rfl⟩
  ·exact⟨_,.inr (.inl rfl),rfl⟩
  ·exact⟨_,.inr (.inr rfl),rfl⟩
 have k2:eqS true (.lst [.int 2,.int 9,.int 10]) (.lst [.int 2,.int 9,.int 10])=some (.bl false):=rfl
 have k3:eqS true (.lst [.int 3,.int 9,.int 10]) (.lst [.int 3,.int 9,.int 10])=some (.bl false):=rfl
 have k4:eqS true (.lst [.int 4,.int 9,.int 10]) (.lst [.int 4,.int 9,.int 10])=some (.bl false):=rfl
 have l1:=F_like w1 (eqD_of w1 b2') b3'
 have l2:=F_like w2 (eqD_of w2 c2) c3
 have kd2:=F_kinds2 w1
 have kd3:=F_kinds3 w2
 have hw:m/4096%4=0\/m/4096%4=1\/m/4096%4=2\/m/4096%4=3:=by omega
 rcases hw with hw | hw | hw | hw
 ·have i1:isS true .non .non=some (.bl false):=rfl
  have z1:eqS false (.lst []) (.lst [])=some (.bl true):=rfl
  have z2:eqS true (.lst []) (.lst [])=some (.bl false):=rfl
  rcases hD with rfl | rfl | rfl
  ·have r:=F_ask0 _ _ _ _ _ (F_run0 b0 b1 os rs qs (.int p) (.tup [.int x,.int y]) rfl rfl gp gr) rfl
   refine⟨(.int m),(.lst []),(.int p),(.tup [.int x,.int y]),(.int 0),(.lst []),.non,.int ((30:Int)+(k:Int)),?_⟩
   generalize flT b0 b1 os rs qs=fl at *
   unfold turn b1_law
   simp[fm,d3,d24,d312,d4096,hDa,p0,p1,pm,pm2,<- hp,<- hx,<- hy,hw,eq_int,r,i1,z1,z2]
  ·have r:=F_askE _ _ _ _ _ (F_run1 b0 b1 os rs qs (.int p) (.tup [.int x,.int y]) (.int 0) (.int (-1)) rfl rfl rfl gp gr (by simp[wh])) rfl
   have z3:eqS false (.lst [.tup [.int 0,.int (-1)]]) (.lst [])=some (.bl false):=rfl
   have z4:eqS true (.lst [.tup [.int 0,.int (-1)]]) (.lst [])=some (.bl true):=rfl
   have kd4:=F_kinds4 (.int (-1))
   refine⟨(.int m),(.lst [.tup [.int 0,.int (-1)]]),(.int p),(.tup [.int x,.int y]),(.int 0),.non,(.err "NoWay" "way" (.int (-1))),.int ((30:Int)+(k:Int)),?_⟩
   generalize flT b0 b1 os rs qs=fl at *
   unfold turn b1_law
   simp[fm,d3,d24,d312,d4096,hDa,p0,p1,pm,pm2,<- hp,<- hx,<- hy,hw,eq_int,r,z3,z4,kd4,k4]
  ·have r:=F_askE _ _ _ _ _ (F_run1 b0 b1 os rs qs (.int p) (.tup [.int x,.int y]) .non .non rfl rfl rfl gp gr (by simp[wh])) rfl
   have z3:eqS false (.lst [.tup [.non,.non]]) (.lst [])=some (.bl false):=rfl
   have z4:eqS true (.lst [.tup [.non,.non]]) (.lst [])=some (.bl true):=rfl
   have kd4:=F_kinds4 .non
   refine⟨(.int m),(.lst [.tup [.non,.non]]),(.int p),(.tup [.int x,.int y]),(.int 0),.non,(.err "NoWay" "way" .non),.int ((30:Int)+(k:Int)),?_⟩
   generalize flT b0 b1 os rs qs=fl at *
   unfold turn b1_law
   simp[fm,d3,d24,d312,d4096,hDa,p0,p1,pm,pm2,<- hp,<- hx,<- hy,hw,eq_int,r,z3,z4,kd4,k4]
 ·have r:=F_askE _ _ _ _ _ (F_runE3 b0 b1 os rs qs (.int p) w2 (.lst D) rfl c4 gp c1) rfl
  refine⟨(.int m),(.lst D),(.int p),w2,(.int 1),.non,(.err "NoPair" "pair" w2),.int ((30:Int)+(k:Int)),?_⟩
  generalize flT b0 b1 os rs qs=fl at *
  unfold turn b1_law
  simp[fm,d3,d24,d312,d4096,d16384,hDa,p0,p1,pm,pm2,<- hp,<- hx,<- hy,hw,eq_int,a2,r,kd3,k3,l2]
 ·have r:=F_askE _ _ _ _ _ (F_runE2 b0 b1 os rs qs w1 (.tup [.int x,.int y]) (.lst D) b4' b1') rfl
  refine⟨(.int m),(.lst D),w1,(.tup [.int x,.int y]),(.int 2),.non,(.err "NoPlace" "place" w1),.int ((30:Int)+(k:Int)),?_⟩
  generalize flT b0 b1 os rs qs=fl at *
  unfold turn b1_law
  simp[fm,d3,d24,d312,d4096,d3e5,hDa,p0,p1,pm,pm2,<- hp,<- hx,<- hy,hw,eq_int,a1,r,kd2,k2,l1]
 ·have r:=F_askE _ _ _ _ _ (F_runE2 b0 b1 os rs qs w1 w2 (.lst D) b4' b1') rfl
  refine⟨(.int m),(.lst D),w1,w2,(.int 3),.non,(.err "NoPlace" "place" w1),.int ((30:Int)+(k:Int)),?_⟩
  generalize flT b0 b1 os rs qs=fl at *
  unfold turn b1_law
  simp[fm,d3,d24,d312,d4096,d16384,d3e5,hDa,p0,p1,pm,pm2,<- hp,<- hx,<- hy,hw,eq_int,a1,a2,r,kd2,k2,l1]
end
end K24
namespace K24
open PySem L2 L3 L5
theorem law_true:∀ ns:List Int,ns.length<=63->F_law [.lst (ns.map T.int)]=some (.bl true):=λ ns _=>by
 show F_law [scrT ns]=_
 have fm:=F_mixed ns 0 (by decide)
 obtain⟨m0,m1⟩:=mixed_0 ns 0
 generalize mixed ns 0=m at *
 have d8:CDiv m 8:=⟨by decide,by decide⟩
 have d104:CDiv m 104:=⟨by decide,by decide⟩
 have d1352:CDiv m 1352:=⟨by decide,by decide⟩
 obtain⟨many,hm⟩:∃ many:Nat,(many:Int)=1+m%8:=⟨(1+m%8).toNat,by omega⟩
 obtain⟨more,hmo⟩:∃ more:Nat,(more:Int)=m/1352%17:=⟨(m/1352%17).toNat,by omega⟩
 obtain⟨b0,hb0⟩:∃ b,b=m/8%13:=⟨_,rfl⟩
 obtain⟨b1,hb1⟩:∃ b,b=m/104%13:=⟨_,rfl⟩
 obtain⟨os,rs,qs,w1,w2,w3,w4,w5,w6,w7,w8,w9⟩:=F_lfloor ns 2 many more (prT (b0,b1)) (by decide) (by omega) (by omega) (by omega)
 have hb0':0<=b0/\b0<=12:=by omega
 have hb1':0<=b1/\b1<=12:=by omega
 have hrs:1<=rs.length:=by cases rs with | nil=>exact absurd rfl w6 | cons r rs=>simp
 have oPL:∀ w∈[T.int (os.length:Int),.int (-1),.non,.bl true,.bl false,.str "0",.tup [.int 0],.lst [.int 0],.int ((os.length:Int)+8),.int (10 ^ 30),.str "keeper",.tup [],.dic],wh w 0 ((os.length:Int)-1)=false/\(dep w<=60\/w=.dic)/\(tyT w).isSome=true/\isErrT w=false:=by
  intro w hw
  simp only[List.mem_cons,List.not_mem_nil,or_false] at hw
  rcases hw with rfl | rfl | rfl | rfl | rfl | rfl | rfl | rfl | rfl | rfl | rfl | rfl | rfl <;> refine⟨?_,by first | exact .inr rfl | exact .inl (by simp[dep,deps]),rfl,rfl⟩
  all_goals first
   | rfl
   | (simp[wh];done)
   | (simp[wh];omega)
 have oPR:∀ w∈[T.tup [.int (b0+1),.int 0],.tup [.int 0,.int (b1+1)],.tup [.int (-1),.int 0],.tup [.int 0,.int (-1)],.tup [.int 0],.tup [.int 0,.int 0,.int 0],.lst [.int 0,.int 0],.tup [.bl true,.int 0],.tup [.int 0,.non],.non,.str "00",.tup [.int (10 ^ 30),.int 0],.int 0],rowW w [(0,b0),(0,b1)]=false/\(dep w<=60\/w=.dic)/\(tyT w).isSome=true/\noEr w=true:=by
  intro w hw
  simp only[List.mem_cons,List.not_mem_nil,or_false] at hw
  rcases hw with rfl | rfl | rfl | rfl | rfl | rfl | rfl | rfl | rfl | rfl | rfl | rfl | rfl <;> refine⟨?_,by exact .inl (by simp[dep,deps]),rfl,rfl⟩
  all_goals first
   | rfl
   | (simp[rowW,wh];done)
   | (simp[rowW,wh];omega)
 generalize hPL:([T.int (os.length:Int),.int (-1),.non,.bl true,.bl false,.str "0",.tup [.int 0],.lst [.int 0],.int ((os.length:Int)+8),.int (10 ^ 30),.str "keeper",.tup [],.dic]:List T)=PL at *
 generalize hPR:([T.tup [.int (b0+1),.int 0],.tup [.int 0,.int (b1+1)],.tup [.int (-1),.int 0],.tup [.int 0,.int (-1)],.tup [.int 0],.tup [.int 0,.int 0,.int 0],.lst [.int 0,.int 0],.tup [.bl true,.int 0],.tup [.int 0,.non],.non,.str "00",.tup [.int (10 ^ 30),.int 0],.int 0]:List T)=PR at *
 have lPL:PL.length=13:=by rw[<- hPL];rfl
 have lPR:PR.length=13:=by rw[<- hPR];rfl
 obtain⟨ρ1,p1,p2⟩:=loop_inv0 (is:=[7,8,9,10,11,12,13,14]) (g:=nmG 7) (b:=b1_law) (λ k:Nat=>T.int (30+(k:Int))) (λ _ ρ=>ρ=[some (.im (scrT ns)),some (.im (.int m)),some (.im (.int (os.length:Int))),some (.im (flT b0 b1 os rs qs)),some (.im (.lst [.int b0,.int b1])),some (.im (.lst PL)),some (.im (.lst PR)),none,none,none,none,none,none,none,none])
  (List.range (62-30)) [some (.im (scrT ns)),some (.im (.int m)),some (.im (.int (os.length:Int))),some (.im (flT b0 b1 os rs qs)),some (.im (.lst [.int b0,.int b1])),some (.im (.lst PL)),some (.im (.lst PR)),none,none,none,none,none,none,none,none] rfl (by
   rintro p i q e ρ rfl
   have hi:i<62-30:=by
    have:i∈List.range (62-30):=by rw[e];simp
    simpa using this
   obtain⟨a,b,c,d,e,g,h,x,t⟩:=b1_turn b0 b1 os rs qs ns (.int m) PL PR oPL lPL oPR lPR hb0' hb1' (by omega) hrs i (by omega)
   exact⟨_,t,rfl⟩)
 subst p2
 have hr:=rng2_nat 30 62 (by decide) (by decide)
 rw[show ((30:Nat):Int)=30 from rfl,show ((62:Nat):Int)=62 from rfl] at hr
 have w1':F_law_floor [scrT ns,.int 2,.int (many:Int),prT (b0,b1),.int (more:Int)]=some (flT b0 b1 os rs qs):=w1
 rw[<- w2] at w1'
 have f0:ixS (flT b0 b1 os rs qs) (.int 0)=some (.tup [.int b0,.int b1]):=rfl
 simp only[ixS] at f0
 have e1:(1:Int)+m%8=(os.length:Int):=by omega
 rw[show ((0:Nat):Int)=0 from rfl] at fm
 have tp:(T.tup [.int (m/8%13),.int (m/104%13)])=prT (b0,b1):=by rw[hb0,hb1];rfl
 have p30:CPow 10 30:=⟨by decide,by decide,by decide⟩
 have nPL:PL.length<=16777216:=by omega
 unfold F_law B_law
 generalize flT b0 b1 os rs qs=f at *
 generalize hp:prT (b0,b1)=pb at *
 generalize b1_law=x1 at *
 simp only[runB,seqS,asgS,forS,retS,startE]
 simp[-Int.reducePow,fm,d8,d104,d1352,e1,tp,<- hmo,w1',f0,p30,hPL,hPR,nPL,hr,p1]
end K24
namespace PySem.W.Fast
theorem tw6226842357242959001:True:=trivial
theorem te2210288137149940926:True:=trivial
theorem tw15127146209731170738:True:=trivial
theorem tw4607240485142280710:True:=trivial
theorem tw11253044405863033765:True:=trivial
theorem tw7425770266654667329:True:=trivial
theorem tw16063274829473521599:True:=trivial
theorem tw1841996348968260975:True:=trivial
theorem tw729809828209956765:True:=trivial
theorem tw288060802144668244:True:=trivial
theorem tw15979087267906085451:True:=trivial
theorem tw7128406063820900454:True:=trivial
theorem tw3576874287330192550:True:=trivial
theorem tw17905075764610113210:True:=trivial
theorem tw14133509813224553694:True:=trivial
theorem tw3787617378121985853:True:=trivial
theorem tw10601517504966702222:True:=trivial
theorem tw11275782362350262685:True:=trivial
theorem tw11484494685699061322:True:=trivial
theorem tw17325412917724290788:True:=trivial
theorem tw12079021257408803276:True:=trivial
theorem tw10337978525992384823:True:=trivial
theorem tw13651149158638657883:True:=trivial
theorem tw11213927046361857434:True:=trivial
theorem tw17011081347805737407:True:=trivial
theorem tw14907519228639257330:True:=trivial
theorem tw15604671153750353160:True:=trivial
theorem tw5905057835968078221:True:=trivial
theorem tw4260310650093340408:True:=trivial
theorem tw10476465130355489246:True:=trivial
theorem tw5656968901772129338:True:=trivial
theorem tw15465616525118246565:True:=trivial
theorem tw4451859357869813573:True:=trivial
theorem tw3164539785310916306:True:=trivial
theorem tw1680747677201465367:True:=trivial
theorem tw7223108043471908817:True:=trivial
theorem tw599853563378717229:True:=trivial
theorem tw12101872513294223077:True:=trivial
theorem tw3622824719975574014:True:=trivial
theorem tw5476516598078370892:True:=trivial
theorem tw10883612584745820294:True:=trivial
theorem tw2766518474590294519:True:=trivial
theorem tw3965998840212387346:True:=trivial
theorem tw2653219019552587164:True:=trivial
theorem tw12345425741109971391:True:=trivial
theorem tw1294156804299148992:True:=trivial
theorem tw16558003774327179180:True:=trivial
theorem tw7943828604662710864:True:=trivial
theorem tw15380739828696819713:True:=trivial
theorem tw7125102469693491384:True:=trivial
theorem tw4092305671569755403:True:=trivial
theorem tw3389302312733421600:True:=trivial
theorem tw17075340574004872727:True:=trivial
theorem tw10643082323341713019:True:=trivial
theorem tw9957259692835772133:True:=trivial
theorem tw2890366694848963198:True:=trivial
theorem tw10484395923248270527:True:=trivial
theorem tw17940348536026313055:True:=trivial
theorem tw9389421580304478421:True:=trivial
theorem tw17691576893794913517:True:=trivial
theorem tw15210844773537851934:True:=trivial
theorem tw9436958758147584101:True:=trivial
theorem tw17244475589281280158:True:=trivial
theorem tw4436311710900592049:True:=trivial
theorem tw16013345732864185146:True:=trivial
theorem tw9269003311193227967:True:=trivial
theorem tw9026112170627945907:True:=trivial
theorem tw15142237264724322559:True:=trivial
theorem tw16996910652209260627:True:=trivial
theorem tw221567637494604659:True:=trivial
theorem tw8560481008687352326:True:=trivial
theorem tw17216714123751220697:True:=trivial
theorem tw12462323835316127931:True:=trivial
theorem tw10663172519220430620:True:=trivial
theorem tw16185758638450379719:True:=trivial
theorem tw4992395514638749506:True:=trivial
theorem tw7129627414345693496:True:=trivial
theorem tw12030460453194656612:True:=trivial
theorem tw437844872411324175:True:=trivial
theorem tw18043752950453773858:True:=trivial
theorem tw6052726695104208892:True:=trivial
theorem tw12537041513521865313:True:=trivial
theorem tw7453149578940035342:True:=trivial
theorem tw4926255152146963681:True:=trivial
theorem tw7222063400913889156:True:=trivial
theorem tw16130283268268936909:True:=trivial
theorem tw494254140143617113:True:=trivial
theorem tw8086633664343554158:True:=trivial
theorem tw16850492134171698623:True:=trivial
theorem tw14312918484480724384:True:=trivial
end PySem.W.Fast
namespace K24
open PySem L2 L3 L5
open PyProof.Rows hiding St
def top (i:Nat):Stmt:=PySem.Challenge.pw_purseborder_k24_runs_begun_elsewhere.main.body.getD i (.Pass ⟨0,0,0,0⟩)
abbrev s_is_whole:Stmt:=top 12
abbrev s_is_whole_within:Stmt:=top 13
abbrev s_is_from_nought_on:Stmt:=top 14
abbrev s_is_row_within:Stmt:=top 15
abbrev s_places_of:Stmt:=top 16
abbrev s_check_place:Stmt:=top 17
abbrev s_check_pair:Stmt:=top 18
abbrev s_stall_at:Stmt:=top 19
abbrev s_is_way:Stmt:=top 21
abbrev s_step_by:Stmt:=top 22
abbrev s_change_by:Stmt:=top 23
abbrev s_change_at:Stmt:=top 24
abbrev s_check_way_from:Stmt:=top 25
abbrev s_made_ready:Stmt:=top 26
abbrev s_behind_deed:Stmt:=top 27
abbrev s_run:Stmt:=top 28
abbrev s_law_mixed:Stmt:=top 30
abbrev s_law_ways:Stmt:=top 31
abbrev s_law_stalls:Stmt:=top 32
abbrev s_law_stall_cell:Stmt:=top 33
abbrev s_law_floor:Stmt:=top 34
abbrev s_law_kinds:Stmt:=top 35
abbrev s_law_like:Stmt:=top 36
abbrev s_law_asked:Stmt:=top 37
abbrev s_law:Stmt:=top 38
abbrev ini_NoPlace:Stmt:=(clsBody (top 4)).getD 0 (.Pass ⟨0,0,0,0⟩)
abbrev ini_NoPair:Stmt:=(clsBody (top 5)).getD 0 (.Pass ⟨0,0,0,0⟩)
abbrev ini_NoWay:Stmt:=(clsBody (top 6)).getD 0 (.Pass ⟨0,0,0,0⟩)
abbrev ini_NoChange:Stmt:=(clsBody (top 7)).getD 0 (.Pass ⟨0,0,0,0⟩)
theorem is_NoChange:InS "times" ini_NoChange:=⟨⟨rfl,rfl,rfl,by decide +kernel,rfl,by decide +kernel,by decide +kernel⟩,⟨_,_,_,_,rfl,λ _=>rfl⟩,λ _ _ _ _ _ _ _ _=>ar2 λ _ _=>rfl⟩
theorem is_NoPair:InS "pair" ini_NoPair:=⟨⟨rfl,rfl,rfl,by decide +kernel,rfl,by decide +kernel,by decide +kernel⟩,⟨_,_,_,_,rfl,λ _=>rfl⟩,λ _ _ _ _ _ _ _ _=>ar2 λ _ _=>rfl⟩
theorem is_NoPlace:InS "place" ini_NoPlace:=⟨⟨rfl,rfl,rfl,by decide +kernel,rfl,by decide +kernel,by decide +kernel⟩,⟨_,_,_,_,rfl,λ _=>rfl⟩,λ _ _ _ _ _ _ _ _=>ar2 λ _ _=>rfl⟩
theorem is_NoWay:InS "way" ini_NoWay:=⟨⟨rfl,rfl,rfl,by decide +kernel,rfl,by decide +kernel,by decide +kernel⟩,⟨_,_,_,_,rfl,λ _=>rfl⟩,λ _ _ _ _ _ _ _ _=>ar2 λ _ _=>rfl⟩
theorem sc_is_whole:FnScope ["thing"] ["thing"] (defScope s_is_whole):=⟨rfl,rfl,rfl,by decide +kernel,rfl,by decide +kernel,by decide +kernel⟩
theorem sc_places_of:FnScope ["floor"] ["floor"] (defScope s_places_of):=⟨rfl,rfl,rfl,by decide +kernel,rfl,by decide +kernel,by decide +kernel⟩
theorem sc_step_by:FnScope ["floor","pair","way","coins","first","second"] ["floor","pair","way"] (defScope s_step_by):=⟨rfl,rfl,rfl,by decide +kernel,rfl,by decide +kernel,by decide +kernel⟩
theorem sc_change_by:FnScope ["brims","stall","pair","times","purse","left","got"] ["brims","stall","pair","times"] (defScope s_change_by):=⟨rfl,rfl,rfl,by decide +kernel,rfl,by decide +kernel,by decide +kernel⟩
theorem sc_law_mixed:FnScope ["_law_script","_law_k","_law_cell"] ["_law_script","_law_k"] (defScope s_law_mixed):=⟨rfl,rfl,rfl,by decide +kernel,rfl,by decide +kernel,by decide +kernel⟩
theorem sc_law_stalls:FnScope ["_law_cell","_law_owners","_law_found","_law_place"] ["_law_cell","_law_owners"] (defScope s_law_stalls):=⟨rfl,rfl,rfl,by decide +kernel,rfl,by decide +kernel,by decide +kernel⟩
theorem sc_law_kinds:FnScope ["_law_caught","_law_some"] ["_law_caught"] (defScope s_law_kinds):=⟨rfl,rfl,rfl,by decide +kernel,rfl,by decide +kernel,by decide +kernel⟩
theorem sc_law_like:FnScope ["_law_one","_law_other"] ["_law_one","_law_other"] (defScope s_law_like):=⟨rfl,rfl,rfl,by decide +kernel,rfl,by decide +kernel,by decide +kernel⟩
theorem sc_is_whole_within:FnScope ["thing","least","most"] ["thing","least","most"] (defScope s_is_whole_within):=⟨rfl,rfl,rfl,by decide +kernel,rfl,by decide +kernel,by decide +kernel⟩
theorem sc_is_from_nought_on:FnScope ["thing"] ["thing"] (defScope s_is_from_nought_on):=⟨rfl,rfl,rfl,by decide +kernel,rfl,by decide +kernel,by decide +kernel⟩
theorem sc_law_ways:FnScope ["_law_script","_law_at","_law_many","_law_more","_law_span","_law_found","_law_k","_law_number","_law_start","_law_coins"] ["_law_script","_law_at","_law_many","_law_more","_law_span"] (defScope s_law_ways):=⟨rfl,rfl,rfl,by decide +kernel,rfl,by decide +kernel,by decide +kernel⟩
theorem sc_law_stall_cell:FnScope ["_law_script","_law_at","_law_digits","_law_mixed_here"] ["_law_script","_law_at","_law_digits"] (defScope s_law_stall_cell):=⟨rfl,rfl,rfl,by decide +kernel,rfl,by decide +kernel,by decide +kernel⟩
theorem sc_is_row_within:FnScope ["thing","bounds"] ["thing","bounds"] (defScope s_is_row_within):=⟨rfl,rfl,rfl,by decide +kernel,rfl,by decide +kernel,by decide +kernel⟩
theorem sc_check_place:FnScope ["floor","place"] ["floor","place"] (defScope s_check_place):=⟨rfl,rfl,rfl,by decide +kernel,rfl,by decide +kernel,by decide +kernel⟩
theorem sc_is_way:FnScope ["floor","thing"] ["floor","thing"] (defScope s_is_way):=⟨rfl,rfl,rfl,by decide +kernel,rfl,by decide +kernel,by decide +kernel⟩
theorem sc_law_floor:FnScope ["_law_script","_law_at","_law_many","_law_brims","_law_more","_law_number","_law_owners","_law_place","_law_span","_law_stalls_here"] ["_law_script","_law_at","_law_many","_law_brims","_law_more"] (defScope s_law_floor):=⟨rfl,rfl,rfl,by decide +kernel,rfl,by decide +kernel,by decide +kernel⟩
theorem sc_check_pair:FnScope ["floor","pair"] ["floor","pair"] (defScope s_check_pair):=⟨rfl,rfl,rfl,by decide +kernel,rfl,by decide +kernel,by decide +kernel⟩
theorem sc_stall_at:FnScope ["floor","place","stall"] ["floor","place"] (defScope s_stall_at):=⟨rfl,rfl,rfl,by decide +kernel,rfl,by decide +kernel,by decide +kernel⟩
theorem sc_check_way_from:FnScope ["floor","place","way"] ["floor","place","way"] (defScope s_check_way_from):=⟨rfl,rfl,rfl,by decide +kernel,rfl,by decide +kernel,by decide +kernel⟩
theorem sc_change_at:FnScope ["floor","place","pair","times","stall"] ["floor","place","pair","times"] (defScope s_change_at):=⟨rfl,rfl,rfl,by decide +kernel,rfl,by decide +kernel,by decide +kernel⟩
theorem sc_made_ready:FnScope ["floor","place","pair","times","ready"] ["floor","place","pair","times"] (defScope s_made_ready):=⟨rfl,rfl,rfl,by decide +kernel,rfl,by decide +kernel,by decide +kernel⟩
theorem sc_behind_deed:FnScope ["floor","place","pair","deed","times","way","ready","behind"] ["floor","place","pair","deed"] (defScope s_behind_deed):=⟨rfl,rfl,rfl,by decide +kernel,rfl,by decide +kernel,by decide +kernel⟩
theorem sc_run:FnScope ["floor","place","pair","deeds","told","stand","deed"] ["floor","place","pair","deeds"] (defScope s_run):=⟨rfl,rfl,rfl,by decide +kernel,rfl,by decide +kernel,by decide +kernel⟩
theorem sc_law_asked:FnScope ["_law_floor_here","_law_place","_law_pair","_law_deeds","_law_found","_law_caught","e"] ["_law_floor_here","_law_place","_law_pair","_law_deeds"] (defScope s_law_asked):=⟨rfl,rfl,rfl,by decide +kernel,rfl,by decide +kernel,by decide +kernel⟩
theorem sc_law:FnScope ["_law_script","_law_number","_law_many","_law_floor_here","_law_far","_law_places","_law_pairs","_law_k","_law_mixed_here","_law_deeds","_law_place","_law_pair","_law_way","_law_found","_law_caught"] ["_law_script"] (defScope s_law):=⟨rfl,rfl,rfl,by decide +kernel,rfl,by decide +kernel,by decide +kernel⟩
section
variable (P:Program) (w:World) (K:PySem.W.Frag) (mg:Str->Option Value) (base:Heap)
abbrev D_is_whole:=FD P w K mg base "is_whole" 1 ["thing"] (spF RkF F_is_whole)
abbrev D_places_of:=FD P w K mg base "places_of" 1 ["floor"] (spF RkF F_places_of)
abbrev D_step_by:=FD P w K mg base "step_by" 1 ["floor","pair","way"] (spF RkF F_step_by)
abbrev D_change_by:=FD P w K mg base "change_by" 1 ["brims","stall","pair","times"] (spF RkF F_change_by)
abbrev D_law_mixed:=FD P w K mg base "_law_mixed" 1 ["_law_script","_law_k"] (spF RkF F_law_mixed)
abbrev D_law_stalls:=FD P w K mg base "_law_stalls" 1 ["_law_cell","_law_owners"] (spF RkF F_law_stalls)
abbrev D_law_kinds:=FD P w K mg base "_law_kinds" 1 ["_law_caught"] (spF RkF F_law_kinds)
abbrev D_law_like:=FD P w K mg base "_law_like" 1 ["_law_one","_law_other"] (spF RkF F_law_like)
abbrev D_is_whole_within:=FD P w K mg base "is_whole_within" 2 ["thing","least","most"] (spF RkF F_is_whole_within)
abbrev D_is_from_nought_on:=FD P w K mg base "is_from_nought_on" 2 ["thing"] (spF RkF F_is_from_nought_on)
abbrev D_law_ways:=FD P w K mg base "_law_ways" 2 ["_law_script","_law_at","_law_many","_law_more","_law_span"] (spF RkF F_law_ways)
abbrev D_law_stall_cell:=FD P w K mg base "_law_stall_cell" 2 ["_law_script","_law_at","_law_digits"] (spF RkF F_law_stall_cell)
abbrev D_is_row_within:=FD P w K mg base "is_row_within" 3 ["thing","bounds"] (spF RkF F_is_row_within)
abbrev D_check_place:=FDX P w K mg base "check_place" 3 ["floor","place"] (spF RkF F_check_place)
abbrev D_is_way:=FD P w K mg base "is_way" 3 ["floor","thing"] (spF RkF F_is_way)
abbrev D_law_floor:=FD P w K mg base "_law_floor" 3 ["_law_script","_law_at","_law_many","_law_brims","_law_more"] (spF RkF F_law_floor)
abbrev D_check_pair:=FDX P w K mg base "check_pair" 4 ["floor","pair"] (spF RkF F_check_pair)
abbrev D_stall_at:=FD P w K mg base "stall_at" 4 ["floor","place"] (spF RkV F_stall_at)
abbrev D_check_way_from:=FDX P w K mg base "check_way_from" 4 ["floor","place","way"] (spF RkF F_check_way_from)
abbrev D_change_at:=FD P w K mg base "change_at" 5 ["floor","place","pair","times"] (spF RkF F_change_at)
abbrev D_made_ready:=FDX P w K mg base "made_ready" 6 ["floor","place","pair","times"] (spF RkV F_made_ready)
abbrev D_behind_deed:=FDX P w K mg base "behind_deed" 7 ["floor","place","pair","deed"] (spF RkF F_behind_deed)
abbrev D_run:=FDX P w K mg base "run" 8 ["floor","place","pair","deeds"] (spF RkF F_run)
abbrev D_law_asked:=FD P w K mg base "_law_asked" 9 ["_law_floor_here","_law_place","_law_pair","_law_deeds"] (spF RkF F_law_asked)
variable {K mg} (T:Bt mg) (U:Bq mg)
include T U
theorem ok_is_whole (F:Fy K mg "is_whole" s_is_whole):D_is_whole P w K mg base:=
 fd6 (k:=0) F sc_is_whole rfl (λ _ _ _ _ _ _=>ar1 λ _=>rfl) λ f cdv A outer s H E hr=>⟨_,
  (pdss_one (pds_ret (pd_and (pd_isinst_int T (pd_var 0 (pv 0))) (pd_one (pd_not (pd_isinst_bool T (pd_var 0 (pv 0)))))))),
  (oks_ret (ok_and ((ok_inst (ok_vr 0))).fr (ok_not ((ok_inst (ok_vr 0))).fr)))⟩
theorem ok_places_of (F:Fy K mg "places_of" s_places_of):D_places_of P w K mg base:=
 fd6 (k:=0) F sc_places_of rfl (λ _ _ _ _ _ _=>ar1 λ _=>rfl) λ f cdv A outer s H E hr=>⟨_,
  (pdss_one (pds_ret (pd_len_ T.len (pda_cons (pd_ix (pd_var 0 (pv 0)) pd_int) pda_nil)))),
  (oks_ret (ok_cb good_len (oka_cons ((ok_op good_ix (ok_vr 0) ((ok_int _)).fr)).er oka_nil)))⟩
theorem ok_step_by (F:Fy K mg "step_by" s_step_by):D_step_by P w K mg base:=
 fd6 (k:=0) F sc_step_by rfl (λ _ _ _ _ _ _=>ar3 λ _ _ _=>rfl) λ f cdv A outer s H E hr=>⟨_,
  (pdss_cons (pds_st 3 sc_step_by.nd (pd_slice (pd_ix (pd_ix (pd_var 0 (pv 0)) pd_int) (pd_var 2 (pv 2))) (pdo_some pd_int) pdo_none))
  (pdss_cons (pds_st 4 sc_step_by.nd (pd_addV (pd_ix (pd_var 1 (pv 1)) pd_int) (pd_ix (pd_var 3 (pv 3)) pd_int)))
  (pdss_cons (pds_st 5 sc_step_by.nd (pd_addV (pd_ix (pd_var 1 (pv 1)) pd_int) (pd_ix (pd_var 3 (pv 3)) pd_int)))
  (pdss_cons (pds_if (PDW.pt (pdw_or (pdt_ltV hr (pd_var 4 (pv 4)) pd_int) (pdw_or1 (pdt_ltV hr (pd_var 5 (pv 5)) pd_int)))) (pdss_one (pds_ret pd_non)) pdss_nil)
  (pdss_one (pds_ret (pd_tup (pda_cons (pd_min_ T.min (pda_cons (pd_var 4 (pv 4)) (pda_cons (pd_ix (pd_ix (pd_var 0 (pv 0)) pd_int) pd_int) pda_nil))) (pda_cons (pd_min_ T.min (pda_cons (pd_var 5 (pv 5)) (pda_cons (pd_ix (pd_ix (pd_var 0 (pv 0)) pd_int) pd_int) pda_nil))) pda_nil))))))))),
  (oks_seq (oks_asg 3 ((ok_slc ((ok_op good_ix ((ok_op good_ix (ok_vr 0) ((ok_int _)).fr)).er (ok_vr 2))).er (okb_some ((ok_int _)).fr) okb_none)).fe)
  (oks_seq (oks_asg 4 ((ok_op good_add ((ok_op good_ix (ok_vr 1) ((ok_int _)).fr)).er ((ok_op good_ix (ok_vr 3) ((ok_int _)).fr)).er)).fe)
  (oks_seq (oks_asg 5 ((ok_op good_add ((ok_op good_ix (ok_vr 1) ((ok_int _)).fr)).er ((ok_op good_ix (ok_vr 3) ((ok_int _)).fr)).er)).fe)
  (oks_seq (oks_if (ok_eor (ok_tst (ok_op good_lt (ok_vr 4) ((ok_int _)).fr).fr) (ok_tst (ok_op good_lt (ok_vr 5) ((ok_int _)).fr).fr)) (oks_ret ok_non) oks_skip)
  (oks_ret (ok_tup (okav_cons ((ok_cb good_min (oka_cons (ok_vr 4) (oka_cons ((ok_op good_ix ((ok_op good_ix (ok_vr 0) ((ok_int _)).fr)).er ((ok_int _)).fr)).er oka_nil)))).fe (okav_cons ((ok_cb good_min (oka_cons (ok_vr 5) (oka_cons ((ok_op good_ix ((ok_op good_ix (ok_vr 0) ((ok_int _)).fr)).er ((ok_int _)).fr)).er oka_nil)))).fe okav_nil))))))))⟩
theorem ok_change_by (F:Fy K mg "change_by" s_change_by):D_change_by P w K mg base:=
 fd6 (k:=0) F sc_change_by rfl (λ _ _ _ _ _ _=>ar4 λ _ _ _ _=>rfl) λ f cdv A outer s H E hr=>⟨_,
  (pdss_cons (pds_st 4 sc_change_by.nd (pd_ix (pd_var 1 (pv 1)) pd_int))
  (pdss_cons (pds_st 5 sc_change_by.nd (pd_sub (pd_ix (pd_var 2 (pv 2)) (pd_var 4 (pv 4))) (pd_mulV (pd_var 3 (pv 3)) (pd_ix (pd_var 1 (pv 1)) pd_int))))
  (pdss_cons (pds_if (pdt_ltV hr (pd_var 5 (pv 5)) pd_int) (pdss_one (pds_ret pd_non)) pdss_nil)
  (pdss_cons (pds_st 6 sc_change_by.nd (pd_min_ T.min (pda_cons (pd_addV (pd_ix (pd_var 2 (pv 2)) (pd_sub pd_int (pd_var 4 (pv 4)))) (pd_mulV (pd_var 3 (pv 3)) (pd_ix (pd_var 1 (pv 1)) pd_int))) (pda_cons (pd_ix (pd_var 0 (pv 0)) (pd_sub pd_int (pd_var 4 (pv 4)))) pda_nil))))
  (pdss_cons (pds_if (pdt_eqT hr (pd_var 4 (pv 4)) pd_int) (pdss_one (pds_ret (pd_tup (pda_cons (pd_var 5 (pv 5)) (pda_cons (pd_var 6 (pv 6)) pda_nil))))) pdss_nil)
  (pdss_one (pds_ret (pd_tup (pda_cons (pd_var 6 (pv 6)) (pda_cons (pd_var 5 (pv 5)) pda_nil)))))))))),
  (oks_seq (oks_asg 4 (ok_op good_ix (ok_vr 1) ((ok_int _)).fr))
  (oks_seq (oks_asg 5 ((ok_sub ((ok_op good_ix (ok_vr 2) (ok_vr 4))).er ((ok_op good_mul (ok_vr 3) ((ok_op good_ix (ok_vr 1) ((ok_int _)).fr)).er)).fr)).fe)
  (oks_seq (oks_if (ok_tst (ok_op good_lt (ok_vr 5) ((ok_int _)).fr).fr) (oks_ret ok_non) oks_skip)
  (oks_seq (oks_asg 6 ((ok_cb good_min (oka_cons ((ok_op good_add ((ok_op good_ix (ok_vr 2) ((ok_sub ((ok_int _)).fr (ok_vr 4))).fr)).er ((ok_op good_mul (ok_vr 3) ((ok_op good_ix (ok_vr 1) ((ok_int _)).fr)).er)).fr)).fr (oka_cons ((ok_op good_ix (ok_vr 0) ((ok_sub ((ok_int _)).fr (ok_vr 4))).fr)).er oka_nil)))).fe)
  (oks_seq (oks_if (ok_tst (ok_op good_eq (ok_vr 4) ((ok_int _)).fr).fr) (oks_ret (ok_tup (okav_cons (ok_var 5) (okav_cons (ok_var 6) okav_nil)))) oks_skip)
  (oks_ret (ok_tup (okav_cons (ok_var 6) (okav_cons (ok_var 5) okav_nil)))))))))⟩
theorem ok_law_mixed (F:Fy K mg "_law_mixed" s_law_mixed):D_law_mixed P w K mg base:=
 fd6 (k:=0) F sc_law_mixed rfl (λ _ _ _ _ _ _=>ar2 λ _ _=>rfl) λ f cdv A outer s H E hr=>⟨_,
  (pdss_cons (pds_st 2 sc_law_mixed.nd pd_int)
  (pdss_cons (pds_if (pdt_ltV hr (pd_var 1 (pv 1)) (pd_len_ T.len (pda_cons (pd_var 0 (pv 0)) pda_nil))) (pdss_one (pds_st 2 sc_law_mixed.nd (pd_mod (pd_ix (pd_var 0 (pv 0)) (pd_var 1 (pv 1))) (pd_pow pd_int pd_int)))) pdss_nil)
  (pdss_one (pds_ret (pd_fdiv (pd_mod (pd_addV (pd_addV (pd_mulV (pd_var 2 (pv 2)) pd_int) (pd_mulV (pd_mulV pd_int (pd_var 1 (pv 1))) (pd_var 1 (pv 1)))) (pd_mulV pd_int (pd_var 1 (pv 1)))) pd_int) pd_int))))),
  (oks_seq (oks_asg 2 ((ok_int _)).fe)
  (oks_seq (oks_if (ok_tst (ok_op good_lt (ok_vr 1) ((ok_cb good_len (oka_cons (ok_vr 0) oka_nil))).fr).fr) (oks_asg 2 ((ok_mod ((ok_op good_ix (ok_vr 0) (ok_vr 1))).er ((ok_pow ((ok_int _)).fr ((ok_int _)).fr)).fr)).fe) oks_skip)
  (oks_ret (ok_fdiv ((ok_mod ((ok_op good_add ((ok_op good_add ((ok_op good_mul (ok_vr 2) ((ok_int _)).fr)).fr ((ok_op good_mul ((ok_op good_mul ((ok_int _)).fr (ok_vr 1))).fr (ok_vr 1))).fr)).fr ((ok_op good_mul ((ok_int _)).fr (ok_vr 1))).fr)).fr ((ok_int _)).fr)).fr ((ok_int _)).fr))))⟩
theorem ok_law_stalls (F:Fy K mg "_law_stalls" s_law_stalls):D_law_stalls P w K mg base:=
 fd6 (k:=0) F sc_law_stalls rfl (λ _ _ _ _ _ _=>ar2 λ _ _=>rfl) λ f cdv A outer s H E hr=>⟨_,
  (pdss_cons (pds_st 2 sc_law_stalls.nd (pd_lst pda_nil))
  (pdss_cons (pds_for PassesOwn.never rfl (pdi_range1_ T.range (pda_cons (pd_len_ T.len (pda_cons (pd_var 1 (pv 1)) pda_nil)) pda_nil)) (pdg_nm 3 sc_law_stalls.nd) (pdss_cons (pds_if (PDW.pt (pdw_and (pdt_eqT hr (pd_ix (pd_var 1 (pv 1)) (pd_var 3 (pv 3))) pd_str) (pdw_and1 (pdt_eqT hr (pd_mod (pd_var 0 (pv 0)) pd_int) pd_int)))) (pdss_one (pds_expr (pd_m_append (pd_var 2 (pv 2)) (pd_tup (pda_cons (pd_var 3 (pv 3)) (pda_cons (pd_mod (pd_fdiv (pd_var 0 (pv 0)) pd_int) pd_int) (pda_cons (pd_addV pd_int (pd_mod (pd_fdiv (pd_var 0 (pv 0)) pd_int) pd_int)) (pda_cons (pd_mod (pd_fdiv (pd_var 0 (pv 0)) pd_int) pd_int) pda_nil)))))))) pdss_nil)
  (pdss_one (pds_st 0 sc_law_stalls.nd (pd_fdiv (pd_var 0 (pv 0)) pd_int)))))
  (pdss_one (pds_ret (pd_tuple_ T.tuple (pda_cons (pd_var 2 (pv 2)) pda_nil)))))),
  (oks_seq (oks_asgO 2 (ok_lst okav_nil))
  (oks_seq (oks_for (oki_rng1 (b:=true) (oka_cons ((ok_cb good_len (oka_cons (ok_vr 1) oka_nil))).fr oka_nil)) (okg_nm 3) (oks_seq (oks_if (ok_eand (ok_tst (ok_op good_eq ((ok_op good_ix (ok_vr 1) (ok_vr 3))).er ((ok_str _)).fr).fr) (ok_tst (ok_op good_eq ((ok_mod (ok_vr 0) ((ok_int _)).fr)).fr ((ok_int _)).fr).fr)) (oks_app 2 ((ok_tup (okav_cons (ok_var 3) (okav_cons ((ok_mod ((ok_fdiv (ok_vr 0) ((ok_int _)).fr)).fr ((ok_int _)).fr)).fe (okav_cons ((ok_op good_add ((ok_int _)).fr ((ok_mod ((ok_fdiv (ok_vr 0) ((ok_int _)).fr)).fr ((ok_int _)).fr)).fr)).fe (okav_cons ((ok_mod ((ok_fdiv (ok_vr 0) ((ok_int _)).fr)).fr ((ok_int _)).fr)).fe okav_nil)))))).fe) oks_skip)
  (oks_asg 0 ((ok_fdiv (ok_vr 0) ((ok_int _)).fr)).fe)))
  (oks_ret (ok_cb good_tuple (oka_cons (ok_vr 2) oka_nil)))))⟩
theorem ok_law_kinds (F:Fy K mg "_law_kinds" s_law_kinds) (o_NoChange:Og K mg "NoChange") (o_NoCount:Og K mg "NoCount") (o_NoFloor:Og K mg "NoFloor") (o_NoMore:Og K mg "NoMore") (o_NoName:Og K mg "NoName") (o_NoPair:Og K mg "NoPair") (o_NoPlace:Og K mg "NoPlace") (o_NoRow:Og K mg "NoRow") (o_NoWay:Og K mg "NoWay") (o_PurseError:Og K mg "PurseError") (hVE:mg "ValueError"=none):D_law_kinds P w K mg base:=
 fd6 (k:=0) F sc_law_kinds rfl (λ _ _ _ _ _ _=>ar1 λ _=>rfl) λ f cdv A outer s H E hr=>⟨_,
  (pdss_cons (pds_st 1 sc_law_kinds.nd (pd_lst (pda_cons (pd_isO o_NoFloor T (pd_var 0 (pv 0))) (pda_cons (pd_isO o_NoMore T (pd_var 0 (pv 0))) (pda_cons (pd_isO o_NoPlace T (pd_var 0 (pv 0))) pda_nil)))))
  (pdss_cons (pds_st 1 sc_law_kinds.nd (pd_addV (pd_var 1 (pv 1)) (pd_lst (pda_cons (pd_isO o_NoPair T (pd_var 0 (pv 0))) (pda_cons (pd_isO o_NoWay T (pd_var 0 (pv 0))) (pda_cons (pd_isO o_NoChange T (pd_var 0 (pv 0))) pda_nil))))))
  (pdss_cons (pds_st 1 sc_law_kinds.nd (pd_addV (pd_var 1 (pv 1)) (pd_lst (pda_cons (pd_isO o_NoCount T (pd_var 0 (pv 0))) (pda_cons (pd_isO o_NoName T (pd_var 0 (pv 0))) (pda_cons (pd_isO o_NoRow T (pd_var 0 (pv 0))) pda_nil))))))
  (pdss_cons (pds_st 1 sc_law_kinds.nd (pd_addV (pd_var 1 (pv 1)) (pd_lst (pda_cons (pd_isO o_PurseError T (pd_var 0 (pv 0))) (pda_cons (pd_isV hVE T (pd_var 0 (pv 0))) pda_nil)))))
  (pdss_one (pds_ret (pd_lw (N':=["_law_k","_law_some"]) (pick:=[none,some 1]) (csc (N:=["_law_caught","_law_some"]) (esc:=defScope s_law_kinds)) rfl (pdi_range1_ T.range (pda_cons pd_int pda_nil)) (λ _ _ _ _ _=>(pdg_nm 0 (by decide +kernel:List.Nodup (α:=Str) ["_law_k","_law_some"]))) (λ _ _ _ _ _=>pdf_one (pdt_tru (pd_ix (pd_var 1 (pv 1)) (pd_var 0 (pv 0))))) (λ _ _ _ _ _=>(pd_var 0 (pv 0)))))))))),
  (oks_seq (oks_asg 1 ((ok_lst (okav_cons ((ok_isE (ok_vr 0))).fe (okav_cons ((ok_isE (ok_vr 0))).fe (okav_cons ((ok_isE (ok_vr 0))).fe okav_nil))))).fe)
  (oks_seq (oks_asg 1 ((ok_op good_add (ok_vr 1) ((ok_lst (okav_cons ((ok_isE (ok_vr 0))).fe (okav_cons ((ok_isE (ok_vr 0))).fe (okav_cons ((ok_isE (ok_vr 0))).fe okav_nil))))).fr)).fe)
  (oks_seq (oks_asg 1 ((ok_op good_add (ok_vr 1) ((ok_lst (okav_cons ((ok_isE (ok_vr 0))).fe (okav_cons ((ok_isE (ok_vr 0))).fe (okav_cons ((ok_isE (ok_vr 0))).fe okav_nil))))).fr)).fe)
  (oks_seq (oks_asg 1 ((ok_op good_add (ok_vr 1) ((ok_lst (okav_cons ((ok_isE (ok_vr 0))).fe (okav_cons ((ok_isE (ok_vr 0))).fe okav_nil)))).fr)).fe)
  (oks_ret (ok_lc (oki_rng1 (b:=false) (oka_cons ((ok_int _)).fr oka_nil)) (okc_nm 0) (ok_tru ((ok_op good_ix (ok_vr 1) (ok_vr 0))).er) (ok_var 0)))))))⟩
theorem ok_law_like (F:Fy K mg "_law_like" s_law_like):D_law_like P w K mg base:=
 fd6 (k:=0) F sc_law_like rfl (λ _ _ _ _ _ _=>ar2 λ _ _=>rfl) λ f cdv A outer s H E hr=>⟨_,
  (pdss_cons (pds_if (PDW.pt (pdw_or (pdt_neT hr (pd_isinst_bool T (pd_var 0 (pv 0))) (pd_isinst_bool T (pd_var 1 (pv 1)))) (pdw_or1 (pdt_neT hr (pd_isinst_int T (pd_var 0 (pv 0))) (pd_isinst_int T (pd_var 1 (pv 1))))))) (pdss_one (pds_ret pd_bl)) pdss_nil)
  (pdss_one (pds_ret (pd_eqD hr (pd_var 0 (pv 0)) (pd_var 1 (pv 1)))))),
  (oks_seq (oks_if (ok_eor (ok_tst (ok_op good_eq ((ok_inst (ok_vr 0))).fr ((ok_inst (ok_vr 1))).fr).fr) (ok_tst (ok_op good_eq ((ok_inst (ok_vr 0))).fr ((ok_inst (ok_vr 1))).fr).fr)) (oks_ret (ok_bl _)) oks_skip)
  (oks_ret (ok_op good_eqD (ok_vr 0) (ok_vr 1))))⟩
theorem ok_is_whole_within (F:Fy K mg "is_whole_within" s_is_whole_within) (G_is_whole:D_is_whole P w K mg base):D_is_whole_within P w K mg base:=
 fd6 (k:=1) F sc_is_whole_within rfl (λ _ _ _ _ _ _=>ar3 λ _ _ _=>rfl) λ f cdv A outer s H E hr=>⟨_,
  (pdss_one (pds_ret (pd_and (pd_callF G_is_whole (hr.mono (by decide)) (pda_cons (pd_var 0 (pv 0)) pda_nil)) (pd_one (pd_ch op_le op_le fit_le fit_le fI0.mo fI0.mo (pd_var 1 (pv 1)) (pd_var 0 (pv 0)) (pd_var 2 (pv 2))))))),
  (oks_ret (ok_and ((ok_call (okav_cons (ok_var 0) okav_nil))).fr (ok_ch good_le good_le (ok_vr 1) (ok_vr 0) (ok_vr 2))))⟩
theorem ok_is_from_nought_on (F:Fy K mg "is_from_nought_on" s_is_from_nought_on) (G_is_whole:D_is_whole P w K mg base):D_is_from_nought_on P w K mg base:=
 fd6 (k:=1) F sc_is_from_nought_on rfl (λ _ _ _ _ _ _=>ar1 λ _=>rfl) λ f cdv A outer s H E hr=>⟨_,
  (pdss_one (pds_ret (pd_and (pd_callF G_is_whole (hr.mono (by decide)) (pda_cons (pd_var 0 (pv 0)) pda_nil)) (pd_one (pd_ge (pd_var 0 (pv 0)) pd_int))))),
  (oks_ret (ok_and ((ok_call (okav_cons (ok_var 0) okav_nil))).fr (ok_ge (ok_vr 0) ((ok_int _)).fr)))⟩
theorem ok_law_ways (F:Fy K mg "_law_ways" s_law_ways) (G_law_mixed:D_law_mixed P w K mg base):D_law_ways P w K mg base:=
 fd6 (k:=1) F sc_law_ways rfl (λ _ _ _ _ _ _=>ar5 λ _ _ _ _ _=>rfl) λ f cdv A outer s H E hr=>⟨_,
  (pdss_cons (pds_st 5 sc_law_ways.nd (pd_lst pda_nil))
  (pdss_cons (pds_for PassesOwn.never rfl (pdi_range1_ T.range (pda_cons (pd_addV (pd_var 2 (pv 2)) (pd_var 3 (pv 3))) pda_nil)) (pdg_nm 6 sc_law_ways.nd) (pdss_cons (pds_st 7 sc_law_ways.nd (pd_callF G_law_mixed (hr.mono (by decide)) (pda_cons (pd_var 0 (pv 0)) (pda_cons (pd_addV (pd_var 1 (pv 1)) (pd_var 6 (pv 6))) pda_nil))))
  (pdss_cons (pds_st 8 sc_law_ways.nd (pd_mod (pd_var 7 (pv 7)) (pd_var 2 (pv 2))))
  (pdss_cons (pds_if (pdt_ltV hr (pd_var 6 (pv 6)) (pd_var 2 (pv 2))) (pdss_one (pds_st 8 sc_law_ways.nd (pd_var 6 (pv 6)))) pdss_nil)
  (pdss_cons (pds_st 9 sc_law_ways.nd (pd_lst (pda_cons (pd_sub (pd_mod (pd_fdiv (pd_var 7 (pv 7)) pd_int) (pd_addV (pd_mulV pd_int (pd_var 4 (pv 4))) pd_int)) (pd_var 4 (pv 4))) (pda_cons (pd_sub (pd_mod (pd_fdiv (pd_var 7 (pv 7)) pd_int) (pd_addV (pd_mulV pd_int (pd_var 4 (pv 4))) pd_int)) (pd_var 4 (pv 4))) pda_nil))))
  (pdss_cons (pds_if (pdt_eqT hr (pd_mod (pd_fdiv (pd_var 7 (pv 7)) pd_int) pd_int) pd_int) (pdss_one (pds_lput (pd_var 9 (pv 9)) (pd_mod (pd_fdiv (pd_var 7 (pv 7)) pd_int) pd_int) pd_int)) pdss_nil)
  (pdss_one (pds_expr (pd_m_append (pd_var 5 (pv 5)) (pd_tup (pda_cons (pd_var 8 (pv 8)) (pda_cons (pd_mod (pd_fdiv (pd_var 7 (pv 7)) pd_int) (pd_var 2 (pv 2))) (pda_cons (pd_ix (pd_var 9 (pv 9)) pd_int) (pda_cons (pd_ix (pd_var 9 (pv 9)) pd_int) pda_nil))))))))))))))
  (pdss_one (pds_ret (pd_tuple_ T.tuple (pda_cons (pd_sortsetV hr T.sorted U.set (pda_cons (pd_var 5 (pv 5)) pda_nil)) pda_nil)))))),
  (oks_seq (oks_asgO 5 (ok_lst okav_nil))
  (oks_seq (oks_for (oki_rng1 (b:=true) (oka_cons ((ok_op good_add (ok_vr 2) (ok_vr 3))).fr oka_nil)) (okg_nm 6) (oks_seq (oks_asg 7 ((ok_call (okav_cons (ok_var 0) (okav_cons ((ok_op good_add (ok_vr 1) (ok_vr 6))).fe okav_nil)))).fe)
  (oks_seq (oks_asg 8 ((ok_mod (ok_vr 7) (ok_vr 2))).fe)
  (oks_seq (oks_if (ok_tst (ok_op good_lt (ok_vr 6) (ok_vr 2)).fr) (oks_asg 8 (ok_var 6)) oks_skip)
  (oks_seq (oks_asgO 9 (ok_lst (okav_cons ((ok_sub ((ok_mod ((ok_fdiv (ok_vr 7) ((ok_int _)).fr)).fr ((ok_op good_add ((ok_op good_mul ((ok_int _)).fr (ok_vr 4))).fr ((ok_int _)).fr)).fr)).fr (ok_vr 4))).fe (okav_cons ((ok_sub ((ok_mod ((ok_fdiv (ok_vr 7) ((ok_int _)).fr)).fr ((ok_op good_add ((ok_op good_mul ((ok_int _)).fr (ok_vr 4))).fr ((ok_int _)).fr)).fr)).fr (ok_vr 4))).fe okav_nil))))
  (oks_seq (oks_if (ok_tst (ok_op good_eq ((ok_mod ((ok_fdiv (ok_vr 7) ((ok_int _)).fr)).fr ((ok_int _)).fr)).fr ((ok_int _)).fr).fr) (oks_lput 9 ((ok_mod ((ok_fdiv (ok_vr 7) ((ok_int _)).fr)).fr ((ok_int _)).fr)).fr ((ok_int _)).fe) oks_skip)
  (oks_app 5 ((ok_tup (okav_cons (ok_var 8) (okav_cons ((ok_mod ((ok_fdiv (ok_vr 7) ((ok_int _)).fr)).fr (ok_vr 2))).fe (okav_cons (ok_op good_ix (ok_vr 9) ((ok_int _)).fr) (okav_cons (ok_op good_ix (ok_vr 9) ((ok_int _)).fr) okav_nil)))))).fe)))))))
  (oks_ret (ok_cb good_tuple (oka_cons ((ok_cb good_sortsetV (oka_cons (ok_vr 5) oka_nil))).fr oka_nil)))))⟩
theorem ok_law_stall_cell (F:Fy K mg "_law_stall_cell" s_law_stall_cell) (G_law_mixed:D_law_mixed P w K mg base):D_law_stall_cell P w K mg base:=
 fd6 (k:=1) F sc_law_stall_cell rfl (λ _ _ _ _ _ _=>ar3 λ _ _ _=>rfl) λ f cdv A outer s H E hr=>⟨_,
  (pdss_cons (pds_if (PDW.pt (pdw_and (pdt_tru (pd_var 2 (pv 2))) (pdw_and1 (pdt_ltV hr (pd_var 1 (pv 1)) (pd_len_ T.len (pda_cons (pd_var 0 (pv 0)) pda_nil)))))) (pdss_one (pds_ret (pd_mod (pd_ix (pd_var 0 (pv 0)) (pd_var 1 (pv 1))) (pd_pow pd_int pd_int)))) pdss_nil)
  (pdss_cons (pds_st 3 sc_law_stall_cell.nd (pd_callF G_law_mixed (hr.mono (by decide)) (pda_cons (pd_var 0 (pv 0)) (pda_cons (pd_var 1 (pv 1)) pda_nil))))
  (pdss_one (pds_ret (pd_addV (pd_mulV (pd_mulV (pd_var 3 (pv 3)) (pd_var 3 (pv 3))) (pd_var 3 (pv 3))) (pd_mulV pd_int (pd_var 3 (pv 3)))))))),
  (oks_seq (oks_if (ok_eand (ok_tru (ok_vr 2)) (ok_tst (ok_op good_lt (ok_vr 1) ((ok_cb good_len (oka_cons (ok_vr 0) oka_nil))).fr).fr)) (oks_ret (ok_mod ((ok_op good_ix (ok_vr 0) (ok_vr 1))).er ((ok_pow ((ok_int _)).fr ((ok_int _)).fr)).fr)) oks_skip)
  (oks_seq (oks_asg 3 ((ok_call (okav_cons (ok_var 0) (okav_cons (ok_var 1) okav_nil)))).fe)
  (oks_ret (ok_op good_add ((ok_op good_mul ((ok_op good_mul (ok_vr 3) (ok_vr 3))).fr (ok_vr 3))).fr ((ok_op good_mul ((ok_int _)).fr (ok_vr 3))).fr))))⟩
theorem ok_is_row_within (F:Fy K mg "is_row_within" s_is_row_within) (G_is_whole_within:D_is_whole_within P w K mg base):D_is_row_within P w K mg base:=
 fd6 (k:=2) F sc_is_row_within rfl (λ _ _ _ _ _ _=>ar2 λ _ _=>rfl) λ f cdv A outer s H E hr=>⟨_,
  (pdss_cons (pds_if (PDW.pt (pdw_or (pdt_not (pdt_tru (pd_isinst_tuple T (pd_var 0 (pv 0))))) (pdw_or1 (pdt_neT hr (pd_len_ T.len (pda_cons (pd_var 0 (pv 0)) pda_nil)) (pd_len_ T.len (pda_cons (pd_var 1 (pv 1)) pda_nil)))))) (pdss_one (pds_ret pd_bl)) pdss_nil)
  (pdss_one (pds_ret (pd_allV T.all (pda_cons (pd_lw (N':=["number","bound"]) (pick:=[none,none]) (csc (N:=["thing","bounds"]) (esc:=defScope s_is_row_within)) rfl (pdi_zip U.zip (pda_cons (pd_var 0 (pv 0)) (pda_cons (pd_var 1 (pv 1)) pda_nil))) (λ _ _ _ _ _=>(pdg_tp (n:=2) (pdgs_cons (pdg_nm 0 (by decide +kernel:List.Nodup (α:=Str) ["number","bound"])) (pdgs_cons (pdg_nm 1 (by decide +kernel:List.Nodup (α:=Str) ["number","bound"])) pdgs_nil)))) (λ _ _ _ _ _=>pdf_nil) (λ _ _ _ _ _=>(pd_callF G_is_whole_within (hr.mono (by decide)) (pda_cons (pd_var 0 (pv 0)) (pda_cons (pd_ix (pd_var 1 (pv 1)) pd_int) (pda_cons (pd_ix (pd_var 1 (pv 1)) pd_int) pda_nil)))))) pda_nil))))),
  (oks_seq (oks_if (ok_eor (ok_enot (ok_tru ((ok_inst (ok_vr 0))).fr)) (ok_tst (ok_op good_eq ((ok_cb good_len (oka_cons (ok_vr 0) oka_nil))).fr ((ok_cb good_len (oka_cons (ok_vr 1) oka_nil))).fr).fr)) (oks_ret (ok_bl _)) oks_skip)
  (oks_ret (ok_cb good_bs (oka_cons ((ok_lc (oki_zipR (oka_cons (ok_vr 0) (oka_cons (ok_vr 1) oka_nil))) (okc_tp (okcs_cons (okc_nm 0) (okcs_cons (okc_nm 1) okcs_nil))) ok_true ((ok_call (okav_cons (ok_var 0) (okav_cons (ok_op good_ix (ok_vr 1) ((ok_int _)).fr) (okav_cons (ok_op good_ix (ok_vr 1) ((ok_int _)).fr) okav_nil))))).fe)).fr oka_nil))))⟩
theorem ok_check_place (F:Fy K mg "check_place" s_check_place) (i_NoPlace:InF K mg "NoPlace" "place" ini_NoPlace) (G_is_whole_within:D_is_whole_within P w K mg base) (G_places_of:D_places_of P w K mg base):D_check_place P w K mg base:=
 fd7 (k:=2) F sc_check_place rfl (λ _ _ _ _ _ _=>ar2 λ _ _=>rfl) λ f cdv A outer s H E hr=>⟨_,
  (pdx_one (pdx_if (pdt_not (pdt_tru (pd_callF G_is_whole_within (hr.mono (by decide)) (pda_cons (pd_var 1 (pv 1)) (pda_cons pd_int (pda_cons (pd_sub (pd_callF G_places_of (hr.mono (by decide)) (pda_cons (pd_var 0 (pv 0)) pda_nil)) pd_int) pda_nil)))))) (pdx_one (pdx_raise i_NoPlace is_NoPlace hr (pd_var 1 (pv 1)))) pdx_nil)),
  (oks_if (ok_enot (ok_tru ((ok_call (okav_cons (ok_var 1) (okav_cons ((ok_int _)).fe (okav_cons ((ok_sub ((ok_call (okav_cons (ok_var 0) okav_nil))).fr ((ok_int _)).fr)).fe okav_nil))))).fr)) (oks_rz (ok_var 1)) oks_skip)⟩
theorem ok_is_way (F:Fy K mg "is_way" s_is_way) (G_is_whole_within:D_is_whole_within P w K mg base):D_is_way P w K mg base:=
 fd6 (k:=2) F sc_is_way rfl (λ _ _ _ _ _ _=>ar2 λ _ _=>rfl) λ f cdv A outer s H E hr=>⟨_,
  (pdss_one (pds_ret (pd_callF G_is_whole_within (hr.mono (by decide)) (pda_cons (pd_var 1 (pv 1)) (pda_cons pd_int (pda_cons (pd_sub (pd_len_ T.len (pda_cons (pd_ix (pd_var 0 (pv 0)) pd_int) pda_nil)) pd_int) pda_nil)))))),
  (oks_ret (ok_call (okav_cons (ok_var 1) (okav_cons ((ok_int _)).fe (okav_cons ((ok_sub ((ok_cb good_len (oka_cons ((ok_op good_ix (ok_vr 0) ((ok_int _)).fr)).er oka_nil))).fr ((ok_int _)).fr)).fe okav_nil)))))⟩
theorem ok_law_floor (F:Fy K mg "_law_floor" s_law_floor) (G_law_mixed:D_law_mixed P w K mg base) (G_law_stalls:D_law_stalls P w K mg base) (G_law_ways:D_law_ways P w K mg base) (G_law_stall_cell:D_law_stall_cell P w K mg base):D_law_floor P w K mg base:=
 fd6 (k:=2) F sc_law_floor rfl (λ _ _ _ _ _ _=>ar5 λ _ _ _ _ _=>rfl) λ f cdv A outer s H E hr=>⟨_,
  (pdss_cons (pds_st 5 sc_law_floor.nd (pd_callF G_law_mixed (hr.mono (by decide)) (pda_cons (pd_var 0 (pv 0)) (pda_cons (pd_var 1 (pv 1)) pda_nil))))
  (pdss_cons (pds_st 6 sc_law_floor.nd (pd_lst pda_nil))
  (pdss_cons (pds_for PassesOwn.never rfl (pdi_range1_ T.range (pda_cons (pd_var 2 (pv 2)) pda_nil)) (pdg_nm 7 sc_law_floor.nd) (pdss_one (pds_expr (pd_m_append (pd_var 6 (pv 6)) (pd_ix (pd_lst (pda_cons pd_str (pda_cons pd_str pda_nil))) (pd_band (pd_shr (pd_var 5 (pv 5)) (pd_var 7 (pv 7))) pd_int))))))
  (pdss_cons (pds_st 8 sc_law_floor.nd (pd_ix (pd_lst (pda_cons pd_int (pda_cons pd_int (pda_cons pd_int (pda_cons pd_int pda_nil))))) (pd_mod (pd_fdiv (pd_var 5 (pv 5)) pd_int) pd_int)))
  (pdss_cons (pds_st 9 sc_law_floor.nd (pd_tup pda_nil))
  (pdss_cons (pds_if (pdt_eqT hr (pd_mod (pd_fdiv (pd_var 5 (pv 5)) pd_int) pd_int) pd_int) (pdss_one (pds_st 9 sc_law_floor.nd (pd_callF G_law_stalls (hr.mono (by decide)) (pda_cons (pd_callF G_law_stall_cell (hr.mono (by decide)) (pda_cons (pd_var 0 (pv 0)) (pda_cons (pd_addV (pd_var 1 (pv 1)) pd_int) (pda_cons (pd_eqT hr (pd_mod (pd_fdiv (pd_var 5 (pv 5)) pd_int) pd_int) pd_int) pda_nil)))) (pda_cons (pd_var 6 (pv 6)) pda_nil))))) pdss_nil)
  (pdss_one (pds_ret (pd_tup (pda_cons (pd_var 3 (pv 3)) (pda_cons (pd_tuple_ T.tuple (pda_cons (pd_var 6 (pv 6)) pda_nil)) (pda_cons (pd_callF G_law_ways (hr.mono (by decide)) (pda_cons (pd_var 0 (pv 0)) (pda_cons (pd_addV (pd_var 1 (pv 1)) pd_int) (pda_cons (pd_var 2 (pv 2)) (pda_cons (pd_var 4 (pv 4)) (pda_cons (pd_var 8 (pv 8)) pda_nil)))))) (pda_cons (pd_var 9 (pv 9)) pda_nil))))))))))))),
  (oks_seq (oks_asg 5 ((ok_call (okav_cons (ok_var 0) (okav_cons (ok_var 1) okav_nil)))).fe)
  (oks_seq (oks_asgO 6 (ok_lst okav_nil))
  (oks_seq (oks_for (oki_rng1 (b:=true) (oka_cons (ok_vr 2) oka_nil)) (okg_nm 7) (oks_app 6 (ok_op good_ix ((ok_lst (okav_cons ((ok_str _)).fe (okav_cons ((ok_str _)).fe okav_nil)))).fr ((ok_band ((ok_shr (ok_vr 5) (ok_vr 7))).fr ((ok_int _)).fr)).fr)))
  (oks_seq (oks_asg 8 (ok_op good_ix ((ok_lst (okav_cons ((ok_int _)).fe (okav_cons ((ok_int _)).fe (okav_cons ((ok_int _)).fe (okav_cons ((ok_int _)).fe okav_nil)))))).fr ((ok_mod ((ok_fdiv (ok_vr 5) ((ok_int _)).fr)).fr ((ok_int _)).fr)).fr))
  (oks_seq (oks_asg 9 ((ok_tup okav_nil)).fe)
  (oks_seq (oks_if (ok_tst (ok_op good_eq ((ok_mod ((ok_fdiv (ok_vr 5) ((ok_int _)).fr)).fr ((ok_int _)).fr)).fr ((ok_int _)).fr).fr) (oks_fz 6 (oks_asg 9 ((ok_call (okav_cons ((ok_call (okav_cons (ok_var 0) (okav_cons ((ok_op good_add (ok_vr 1) ((ok_int _)).fr)).fe (okav_cons ((ok_op good_eq ((ok_mod ((ok_fdiv (ok_vr 5) ((ok_int _)).fr)).fr ((ok_int _)).fr)).fr ((ok_int _)).fr)).fe okav_nil))))).fe (okav_cons (ok_var 6) okav_nil)))).fe)) oks_skip)
  (oks_ret (ok_tup (okav_cons (ok_var 3) (okav_cons ((ok_cb good_tuple (oka_cons (ok_vr 6) oka_nil))).fe (okav_cons ((ok_call (okav_cons (ok_var 0) (okav_cons ((ok_op good_add (ok_vr 1) ((ok_int _)).fr)).fe (okav_cons (ok_var 2) (okav_cons (ok_var 4) (okav_cons (ok_var 8) okav_nil))))))).fe (okav_cons (ok_var 9) okav_nil))))))))))))⟩
theorem ok_check_pair (F:Fy K mg "check_pair" s_check_pair) (i_NoPair:InF K mg "NoPair" "pair" ini_NoPair) (G_is_row_within:D_is_row_within P w K mg base):D_check_pair P w K mg base:=
 fd7 (k:=3) F sc_check_pair rfl (λ _ _ _ _ _ _=>ar2 λ _ _=>rfl) λ f cdv A outer s H E hr=>⟨_,
  (pdx_one (pdx_if (pdt_not (pdt_tru (pd_callF G_is_row_within (hr.mono (by decide)) (pda_cons (pd_var 1 (pv 1)) (pda_cons (pd_tup (pda_cons (pd_tup (pda_cons pd_int (pda_cons (pd_ix (pd_ix (pd_var 0 (pv 0)) pd_int) pd_int) pda_nil))) (pda_cons (pd_tup (pda_cons pd_int (pda_cons (pd_ix (pd_ix (pd_var 0 (pv 0)) pd_int) pd_int) pda_nil))) pda_nil))) pda_nil))))) (pdx_one (pdx_raise i_NoPair is_NoPair hr (pd_var 1 (pv 1)))) pdx_nil)),
  (oks_if (ok_enot (ok_tru ((ok_call (okav_cons (ok_var 1) (okav_cons ((ok_tup (okav_cons ((ok_tup (okav_cons ((ok_int _)).fe (okav_cons (ok_op good_ix ((ok_op good_ix (ok_vr 0) ((ok_int _)).fr)).er ((ok_int _)).fr) okav_nil)))).fe (okav_cons ((ok_tup (okav_cons ((ok_int _)).fe (okav_cons (ok_op good_ix ((ok_op good_ix (ok_vr 0) ((ok_int _)).fr)).er ((ok_int _)).fr) okav_nil)))).fe okav_nil)))).fe okav_nil)))).fr)) (oks_rz (ok_var 1)) oks_skip)⟩
theorem ok_stall_at (F:Fy K mg "stall_at" s_stall_at) (G_check_place:D_check_place P w K mg base):D_stall_at P w K mg base:=
 fd6 (k:=3) F sc_stall_at rfl (λ _ _ _ _ _ _=>ar2 λ _ _=>rfl) λ f cdv A outer s H E hr=>⟨_,
  (pdss_cons (pds_expr (pd_callF (FDX.no G_check_place) (hr.mono (by decide)) (pda_cons (pd_var 0 (pv 0)) (pda_cons (pd_var 1 (pv 1)) pda_nil))))
  (pdss_cons (pds_for PassesOwn.never rfl (pdi_seq (pd_ix (pd_var 0 (pv 0)) pd_int)) (pdg_nm 2 sc_stall_at.nd) (pdss_one (pds_if (pdt_eqT hr (pd_ix (pd_var 2 (pv 2)) pd_int) (pd_var 1 (pv 1))) (pdss_one (pds_ret (pd_var 2 (pv 2)))) pdss_nil)))
  (pdss_one (pds_ret pd_non)))),
  (oks_seq (oks_drp ((ok_call (okav_cons (ok_var 0) (okav_cons (ok_var 1) okav_nil)))).fr)
  (oks_seq (oks_for (oki_seq (ok_op good_ix (ok_vr 0) ((ok_int _)).fr)) (okg_nm 2) (oks_if (ok_tst (ok_op good_eq ((ok_op good_ix (ok_vr 2) ((ok_int _)).fr)).er (ok_vr 1)).fr) (oks_ret (ok_var 2)) oks_skip))
  (oks_ret (ok_non).fe)))⟩
theorem ok_check_way_from (F:Fy K mg "check_way_from" s_check_way_from) (i_NoWay:InF K mg "NoWay" "way" ini_NoWay) (G_is_way:D_is_way P w K mg base):D_check_way_from P w K mg base:=
 fd7 (k:=3) F sc_check_way_from rfl (λ _ _ _ _ _ _=>ar3 λ _ _ _=>rfl) λ f cdv A outer s H E hr=>⟨_,
  (pdx_one (pdx_if (PDW.pt (pdw_or (pdt_not (pdt_tru (pd_callF G_is_way (hr.mono (by decide)) (pda_cons (pd_var 0 (pv 0)) (pda_cons (pd_var 2 (pv 2)) pda_nil))))) (pdw_or1 (pdt_neT hr (pd_ix (pd_ix (pd_ix (pd_var 0 (pv 0)) pd_int) (pd_var 2 (pv 2))) pd_int) (pd_var 1 (pv 1)))))) (pdx_one (pdx_raise i_NoWay is_NoWay hr (pd_var 2 (pv 2)))) pdx_nil)),
  (oks_if (ok_eor (ok_enot (ok_tru ((ok_call (okav_cons (ok_var 0) (okav_cons (ok_var 2) okav_nil)))).fr)) (ok_tst (ok_op good_eq ((ok_op good_ix ((ok_op good_ix ((ok_op good_ix (ok_vr 0) ((ok_int _)).fr)).er (ok_vr 2))).er ((ok_int _)).fr)).er (ok_vr 1)).fr)) (oks_rz (ok_var 2)) oks_skip)⟩
theorem ok_change_at (F:Fy K mg "change_at" s_change_at) (G_stall_at:D_stall_at P w K mg base) (G_change_by:D_change_by P w K mg base):D_change_at P w K mg base:=
 fd6 (k:=4) F sc_change_at rfl (λ _ _ _ _ _ _=>ar4 λ _ _ _ _=>rfl) λ f cdv A outer s H E hr=>⟨_,
  (pdss_cons (pds_if (pdt_eqT hr (pd_var 3 (pv 3)) pd_int) (pdss_one (pds_ret (pd_tup (pda_cons (pd_ix (pd_var 2 (pv 2)) pd_int) (pda_cons (pd_ix (pd_var 2 (pv 2)) pd_int) pda_nil))))) pdss_nil)
  (pdss_cons (pds_st 4 sc_change_at.nd (pd_callF G_stall_at (hr.mono (by decide)) (pda_cons (pd_var 0 (pv 0)) (pda_cons (pd_var 1 (pv 1)) pda_nil))))
  (pdss_cons (pds_if (pdt_isV (pd_var 4 (pv 4)) pd_non) (pdss_one (pds_ret pd_non)) pdss_nil)
  (pdss_one (pds_ret (pd_callF G_change_by (hr.mono (by decide)) (pda_cons (pd_ix (pd_var 0 (pv 0)) pd_int) (pda_cons (pd_var 4 (pv 4)) (pda_cons (pd_var 2 (pv 2)) (pda_cons (pd_var 3 (pv 3)) pda_nil)))))))))),
  (oks_seq (oks_if (ok_tst (ok_op good_eq (ok_vr 3) ((ok_int _)).fr).fr) (oks_ret (ok_tup (okav_cons (ok_op good_ix (ok_vr 2) ((ok_int _)).fr) (okav_cons (ok_op good_ix (ok_vr 2) ((ok_int _)).fr) okav_nil)))) oks_skip)
  (oks_seq (oks_asg 4 (ok_call (okav_cons (ok_var 0) (okav_cons (ok_var 1) okav_nil))))
  (oks_seq (oks_if (ok_tst (ok_op good_is (ok_vr 4) (ok_non).fr).fr) (oks_ret ok_non) oks_skip)
  (oks_ret (ok_call (okav_cons (ok_op good_ix (ok_vr 0) ((ok_int _)).fr) (okav_cons (ok_var 4) (okav_cons (ok_var 2) (okav_cons (ok_var 3) okav_nil)))))))))⟩
theorem ok_made_ready (F:Fy K mg "made_ready" s_made_ready) (i_NoChange:InF K mg "NoChange" "times" ini_NoChange) (G_change_at:D_change_at P w K mg base) (G_is_from_nought_on:D_is_from_nought_on P w K mg base):D_made_ready P w K mg base:=
 fd7 (k:=5) F sc_made_ready rfl (λ _ _ _ _ _ _=>ar4 λ _ _ _ _=>rfl) λ f cdv A outer s H E hr=>⟨_,
  (pdx_cons (pdx_if (pdt_not (pdt_tru (pd_callF G_is_from_nought_on (hr.mono (by decide)) (pda_cons (pd_var 3 (pv 3)) pda_nil)))) (pdx_one (pdx_raise i_NoChange is_NoChange hr (pd_var 3 (pv 3)))) pdx_nil)
  (pdx_cons (pdx_of (pds_st 4 sc_made_ready.nd (pd_callF G_change_at (hr.mono (by decide)) (pda_cons (pd_var 0 (pv 0)) (pda_cons (pd_var 1 (pv 1)) (pda_cons (pd_var 2 (pv 2)) (pda_cons (pd_var 3 (pv 3)) pda_nil)))))))
  (pdx_cons (pdx_if (pdt_isV (pd_var 4 (pv 4)) pd_non) (pdx_one (pdx_raise i_NoChange is_NoChange hr (pd_var 3 (pv 3)))) pdx_nil)
  (pdx_one (pdx_ret (pd_var 4 (pv 4))))))),
  (oks_seq (oks_if (ok_enot (ok_tru ((ok_call (okav_cons (ok_var 3) okav_nil))).fr)) (oks_rz (ok_var 3)) oks_skip)
  (oks_seq (oks_asg 4 ((ok_call (okav_cons (ok_var 0) (okav_cons (ok_var 1) (okav_cons (ok_var 2) (okav_cons (ok_var 3) okav_nil)))))).fe)
  (oks_seq (oks_if (ok_tst (ok_op good_is (ok_vr 4) (ok_non).fr).fr) (oks_rz (ok_var 3)) oks_skip)
  (oks_retG (ok_var 4)))))⟩
theorem ok_behind_deed (F:Fy K mg "behind_deed" s_behind_deed) (G_check_way_from:D_check_way_from P w K mg base) (G_made_ready:D_made_ready P w K mg base) (G_step_by:D_step_by P w K mg base):D_behind_deed P w K mg base:=
 fd7 (k:=6) F sc_behind_deed rfl (λ _ _ _ _ _ _=>ar4 λ _ _ _ _=>rfl) λ f cdv A outer s H E hr=>⟨_,
  (pdx_cons (pdx_of (pds_st 4 sc_behind_deed.nd (pd_ix (pd_var 3 (pv 3)) pd_int)))
  (pdx_cons (pdx_of (pds_st 5 sc_behind_deed.nd (pd_ix (pd_var 3 (pv 3)) pd_int)))
  (pdx_cons (pdx_drop G_check_way_from hr (pda_cons (pd_var 0 (pv 0)) (pda_cons (pd_var 1 (pv 1)) (pda_cons (pd_var 5 (pv 5)) pda_nil))))
  (pdx_cons (pdx_asg (i:=6) G_made_ready sc_behind_deed.nd hr (pda_cons (pd_var 0 (pv 0)) (pda_cons (pd_var 1 (pv 1)) (pda_cons (pd_var 2 (pv 2)) (pda_cons (pd_var 4 (pv 4)) pda_nil)))))
  (pdx_cons (pdx_of (pds_st 7 sc_behind_deed.nd (pd_callF G_step_by (hr.mono (by decide)) (pda_cons (pd_var 0 (pv 0)) (pda_cons (pd_var 6 (pv 6)) (pda_cons (pd_var 5 (pv 5)) pda_nil))))))
  (pdx_cons (pdx_if (pdt_isV (pd_var 7 (pv 7)) pd_non) (pdx_one (pdx_ret pd_non)) pdx_nil)
  (pdx_one (pdx_ret (pd_tup (pda_cons (pd_ix (pd_ix (pd_ix (pd_var 0 (pv 0)) pd_int) (pd_var 5 (pv 5))) pd_int) (pda_cons (pd_var 7 (pv 7)) pda_nil))))))))))),
  (oks_seq (oks_asg 4 (ok_op good_ix (ok_vr 3) ((ok_int _)).fr))
  (oks_seq (oks_asg 5 (ok_op good_ix (ok_vr 3) ((ok_int _)).fr))
  (oks_seq (okfl_drp (okav_cons (ok_var 0) (okav_cons (ok_var 1) (okav_cons (ok_var 5) okav_nil)))).s
  (oks_seq (okfl_asg 6 (okav_cons (ok_var 0) (okav_cons (ok_var 1) (okav_cons (ok_var 2) (okav_cons (ok_var 4) okav_nil))))).s
  (oks_seq (oks_asg 7 ((ok_call (okav_cons (ok_var 0) (okav_cons (ok_var 6) (okav_cons (ok_var 5) okav_nil))))).fe)
  (oks_seq (oks_if (ok_tst (ok_op good_is (ok_vr 7) (ok_non).fr).fr) (oks_retG ok_non) oks_skip)
  (oks_retG (ok_tup (okav_cons (ok_op good_ix ((ok_op good_ix ((ok_op good_ix (ok_vr 0) ((ok_int _)).fr)).er (ok_vr 5))).er ((ok_int _)).fr) (okav_cons (ok_var 7) okav_nil))))))))))⟩
theorem ok_run (F:Fy K mg "run" s_run) (G_check_place:D_check_place P w K mg base) (G_check_pair:D_check_pair P w K mg base) (G_behind_deed:D_behind_deed P w K mg base):D_run P w K mg base:=
 fd7 (k:=7) F sc_run rfl (λ _ _ _ _ _ _=>ar4 λ _ _ _ _=>rfl) λ f cdv A outer s H E hr=>⟨_,
  (pdx_cons (pdx_drop G_check_place hr (pda_cons (pd_var 0 (pv 0)) (pda_cons (pd_var 1 (pv 1)) pda_nil)))
  (pdx_cons (pdx_drop G_check_pair hr (pda_cons (pd_var 0 (pv 0)) (pda_cons (pd_var 2 (pv 2)) pda_nil)))
  (pdx_cons (pdx_of (pds_st 4 sc_run.nd (pd_lst pda_nil)))
  (pdx_cons (pdx_of (pds_st 5 sc_run.nd (pd_tup (pda_cons (pd_var 1 (pv 1)) (pda_cons (pd_var 2 (pv 2)) pda_nil)))))
  (pdx_cons (pdx_for rfl (λ _=>(pdi_seq (pd_var 3 (pv 3)))) (λ _=>(pdg_nm 6 sc_run.nd)) (pdx_cons (pdx_asg (i:=5) G_behind_deed sc_run.nd hr (pda_cons (pd_var 0 (pv 0)) (pda_cons (pd_ix (pd_var 5 (pv 5)) pd_int) (pda_cons (pd_ix (pd_var 5 (pv 5)) pd_int) (pda_cons (pd_var 6 (pv 6)) pda_nil)))))
  (pdx_cons (pdx_of (pds_expr (pd_m_append (pd_var 4 (pv 4)) (pd_var 5 (pv 5)))))
  (pdx_one (pdx_if (pdt_isV (pd_var 5 (pv 5)) pd_non) (pdx_one (pdx_of pds_break)) pdx_nil)))))
  (pdx_one (pdx_ret (pd_var 4 (pv 4))))))))),
  (oks_seq (okfl_drp (okav_cons (ok_var 0) (okav_cons (ok_var 1) okav_nil))).s
  (oks_seq (okfl_drp (okav_cons (ok_var 0) (okav_cons (ok_var 2) okav_nil))).s
  (oks_seq (oks_asgO 4 (ok_lst okav_nil))
  (oks_seq (oks_asg 5 ((ok_tup (okav_cons (ok_var 1) (okav_cons (ok_var 2) okav_nil)))).fe)
  (oks_seq (oks_for (oki_seq (ok_var 3)) (okg_nm 6) (oks_seq (okfl_asg 5 (okav_cons (ok_var 0) (okav_cons (ok_op good_ix (ok_vr 5) ((ok_int _)).fr) (okav_cons (ok_op good_ix (ok_vr 5) ((ok_int _)).fr) (okav_cons (ok_var 6) okav_nil))))).s
  (oks_seq (oks_app 4 (ok_var 5))
  (oks_if (ok_tst (ok_op good_is (ok_vr 5) (ok_non).fr).fr) oks_brk oks_skip))))
  (oks_retOG 4))))))⟩
theorem ok_law_asked (F:Fy K mg "_law_asked" s_law_asked) (G_run:D_run P w K mg base):D_law_asked P w K mg base:=
 fd6 (k:=8) F sc_law_asked rfl (λ _ _ _ _ _ _=>ar4 λ _ _ _ _=>rfl) λ f cdv A outer s H E hr=>⟨_,
  (pdss_cons (pds_st 4 sc_law_asked.nd pd_non)
  (pdss_cons (pds_st 5 sc_law_asked.nd pd_non)
  (pdss_cons (pds_try 6 5 sc_law_asked.nd (pdx_one (pdx_asg (i:=4) G_run sc_law_asked.nd hr (pda_cons (pd_var 0 (pv 0)) (pda_cons (pd_var 1 (pv 1)) (pda_cons (pd_var 2 (pv 2)) (pda_cons (pd_var 3 (pv 3)) pda_nil)))))))
  (pdss_one (pds_ret (pd_tup (pda_cons (pd_var 4 (pv 4)) (pda_cons (pd_var 5 (pv 5)) pda_nil)))))))),
  (oks_seq (oks_asg 4 (ok_non).fe)
  (oks_seq (oks_asg 5 (ok_non).fe)
  (oks_seq (oks_try 6 5 (okfl_asg 4 (okav_cons (ok_var 0) (okav_cons (ok_var 1) (okav_cons (ok_var 2) (okav_cons (ok_var 3) okav_nil))))))
  (oks_ret (ok_tup (okav_cons (ok_var 4) (okav_cons (ok_var 5) okav_nil)))))))⟩
theorem ok_law {f:Addr}{fd:FuncData}(F:Fun K "law" "law" s_law f fd) (G_law_mixed:D_law_mixed P w K mg base) (G_law_floor:D_law_floor P w K mg base) (G_law_asked:D_law_asked P w K mg base) (G_law_kinds:D_law_kinds P w K mg base) (G_law_like:D_law_like P w K mg base):FnOk P w K mg base CX0 10 f fd ["_law_script"] (upP K (spF RkF F_law)):=
 fn5 (k:=9) F sc_law rfl λ cdv A outer s H E hr=>⟨_,
  (pdss_cons (pds_st 1 sc_law.nd (pd_callF G_law_mixed (hr.mono (by decide)) (pda_cons (pd_var 0 (pv 0)) (pda_cons pd_int pda_nil))))
  (pdss_cons (pds_st 2 sc_law.nd (pd_addV pd_int (pd_mod (pd_var 1 (pv 1)) pd_int)))
  (pdss_cons (pds_st 3 sc_law.nd (pd_callF G_law_floor (hr.mono (by decide)) (pda_cons (pd_var 0 (pv 0)) (pda_cons pd_int (pda_cons (pd_var 2 (pv 2)) (pda_cons (pd_tup (pda_cons (pd_mod (pd_fdiv (pd_var 1 (pv 1)) pd_int) pd_int) (pda_cons (pd_mod (pd_fdiv (pd_var 1 (pv 1)) pd_int) pd_int) pda_nil))) (pda_cons (pd_mod (pd_fdiv (pd_var 1 (pv 1)) pd_int) pd_int) pda_nil)))))))
  (pdss_cons (pds_st 4 sc_law.nd (pd_lst (pda_cons (pd_ix (pd_ix (pd_var 3 (pv 3)) pd_int) pd_int) (pda_cons (pd_ix (pd_ix (pd_var 3 (pv 3)) pd_int) pd_int) pda_nil))))
  (pdss_cons (pds_st 5 sc_law.nd (pd_lst (pda_cons (pd_var 2 (pv 2)) (pda_cons (pd_sub pd_int pd_int) (pda_cons pd_non (pda_cons pd_bl (pda_cons pd_bl (pda_cons pd_str (pda_cons (pd_tup (pda_cons pd_int pda_nil)) (pda_cons (pd_lst (pda_cons pd_int pda_nil)) (pda_cons (pd_addV (pd_var 2 (pv 2)) pd_int) (pda_cons (pd_pow pd_int pd_int) (pda_cons pd_str (pda_cons (pd_tup pda_nil) (pda_cons pd_dict0 pda_nil)))))))))))))))
  (pdss_cons (pds_st 6 sc_law.nd (pd_lst (pda_cons (pd_tup (pda_cons (pd_addV (pd_ix (pd_var 4 (pv 4)) pd_int) pd_int) (pda_cons pd_int pda_nil))) (pda_cons (pd_tup (pda_cons pd_int (pda_cons (pd_addV (pd_ix (pd_var 4 (pv 4)) pd_int) pd_int) pda_nil))) (pda_cons (pd_tup (pda_cons (pd_sub pd_int pd_int) (pda_cons pd_int pda_nil))) (pda_cons (pd_tup (pda_cons pd_int (pda_cons (pd_sub pd_int pd_int) pda_nil))) (pda_cons (pd_tup (pda_cons pd_int pda_nil)) (pda_cons (pd_tup (pda_cons pd_int (pda_cons pd_int (pda_cons pd_int pda_nil)))) (pda_cons (pd_lst (pda_cons pd_int (pda_cons pd_int pda_nil))) (pda_cons (pd_tup (pda_cons pd_bl (pda_cons pd_int pda_nil))) (pda_cons (pd_tup (pda_cons pd_int (pda_cons pd_non pda_nil))) pda_nil)))))))))))
  (pdss_cons (pds_st 6 sc_law.nd (pd_addV (pd_var 6 (pv 6)) (pd_lst (pda_cons pd_non (pda_cons pd_str (pda_cons (pd_tup (pda_cons (pd_pow pd_int pd_int) (pda_cons pd_int pda_nil))) (pda_cons pd_int pda_nil)))))))
  (pdss_cons (pds_for PassesOwn.never rfl (pdi_range2_ T.range (pda_cons pd_int (pda_cons pd_int pda_nil))) (pdg_nm 7 sc_law.nd) (pdss_cons (pds_st 8 sc_law.nd (pd_callF G_law_mixed (hr.mono (by decide)) (pda_cons (pd_var 0 (pv 0)) (pda_cons (pd_var 7 (pv 7)) pda_nil))))
  (pdss_cons (pds_st 9 sc_law.nd (pd_ix (pd_lst (pda_cons (pd_lst pda_nil) (pda_cons (pd_lst (pda_cons (pd_tup (pda_cons pd_int (pda_cons (pd_sub pd_int pd_int) pda_nil))) pda_nil)) (pda_cons (pd_lst (pda_cons (pd_tup (pda_cons pd_non (pda_cons pd_non pda_nil))) pda_nil)) pda_nil)))) (pd_mod (pd_var 8 (pv 8)) pd_int)))
  (pdss_cons (pds_st 10 sc_law.nd (pd_mod (pd_fdiv (pd_var 8 (pv 8)) pd_int) (pd_var 2 (pv 2))))
  (pdss_cons (pds_st 11 sc_law.nd (pd_tup (pda_cons (pd_mod (pd_fdiv (pd_var 8 (pv 8)) pd_int) (pd_addV (pd_ix (pd_var 4 (pv 4)) pd_int) pd_int)) (pda_cons (pd_mod (pd_fdiv (pd_var 8 (pv 8)) pd_int) (pd_addV (pd_ix (pd_var 4 (pv 4)) pd_int) pd_int)) pda_nil))))
  (pdss_cons (pds_st 12 sc_law.nd (pd_mod (pd_fdiv (pd_var 8 (pv 8)) pd_int) pd_int))
  (pdss_cons (pds_if (PDW.pt (pdw_or (pdt_eqT hr (pd_var 12 (pv 12)) pd_int) (pdw_or1 (pdt_eqT hr (pd_var 12 (pv 12)) pd_int)))) (pdss_one (pds_st 11 sc_law.nd (pd_ix (pd_var 6 (pv 6)) (pd_mod (pd_fdiv (pd_var 8 (pv 8)) pd_int) pd_int)))) pdss_nil)
  (pdss_cons (pds_if (pdt_gt (pd_var 12 (pv 12)) pd_int) (pdss_one (pds_st 10 sc_law.nd (pd_ix (pd_var 5 (pv 5)) (pd_mod (pd_fdiv (pd_var 8 (pv 8)) pd_int) pd_int)))) pdss_nil)
  (pdss_cons (pds_asg (pd_callF G_law_asked (hr.mono (by decide)) (pda_cons (pd_var 3 (pv 3)) (pda_cons (pd_var 10 (pv 10)) (pda_cons (pd_var 11 (pv 11)) (pda_cons (pd_var 9 (pv 9)) pda_nil))))) (pdg_tp (n:=2) (pdgs_cons (pdg_nm 13 sc_law.nd) (pdgs_cons (pdg_nm 14 sc_law.nd) pdgs_nil))))
  (pdss_cons (pds_if (PDW.pt (pdw_and (pdt_gt (pd_var 12 (pv 12)) pd_int) (pdw_and1 (PDW.pt (pdw_or (pdt_neT hr (pd_callF G_law_kinds (hr.mono (by decide)) (pda_cons (pd_var 14 (pv 14)) pda_nil)) (pd_lst (pda_cons pd_int (pda_cons pd_int (pda_cons pd_int pda_nil))))) (pdw_or1 (pdt_not (pdt_tru (pd_callF G_law_like (hr.mono (by decide)) (pda_cons (pd_fldE (pd_var 14 (pv 14))) (pda_cons (pd_var 10 (pv 10)) pda_nil))))))))))) (pdss_one (pds_ret pd_bl)) pdss_nil)
  (pdss_cons (pds_if (PDW.pt (pdw_and (pdt_eqT hr (pd_var 12 (pv 12)) pd_int) (pdw_and1 (PDW.pt (pdw_or (pdt_neT hr (pd_callF G_law_kinds (hr.mono (by decide)) (pda_cons (pd_var 14 (pv 14)) pda_nil)) (pd_lst (pda_cons pd_int (pda_cons pd_int (pda_cons pd_int pda_nil))))) (pdw_or1 (pdt_not (pdt_tru (pd_callF G_law_like (hr.mono (by decide)) (pda_cons (pd_fldE (pd_var 14 (pv 14))) (pda_cons (pd_var 11 (pv 11)) pda_nil))))))))))) (pdss_one (pds_ret pd_bl)) pdss_nil)
  (pdss_cons (pds_if (PDW.pt (pdw_and (pdt_eqT hr (pd_var 12 (pv 12)) pd_int) (pdw_and (pdt_eqT hr (pd_var 9 (pv 9)) (pd_lst pda_nil)) (pdw_and1 (PDW.pt (pdw_or (pdt_isnotV (pd_var 14 (pv 14)) pd_non) (pdw_or1 (pdt_neT hr (pd_var 13 (pv 13)) (pd_lst pda_nil))))))))) (pdss_one (pds_ret pd_bl)) pdss_nil)
  (pdss_one (pds_if (PDW.pt (pdw_and (pdt_eqT hr (pd_var 12 (pv 12)) pd_int) (pdw_and (pdt_neT hr (pd_var 9 (pv 9)) (pd_lst pda_nil)) (pdw_and1 (pdt_neT hr (pd_callF G_law_kinds (hr.mono (by decide)) (pda_cons (pd_var 14 (pv 14)) pda_nil)) (pd_lst (pda_cons pd_int (pda_cons pd_int (pda_cons pd_int pda_nil))))))))) (pdss_one (pds_ret pd_bl)) pdss_nil))))))))))))))
  (pdss_one (pds_ret pd_bl)))))))))),
  (oks_seq (oks_asg 1 ((ok_call (okav_cons (ok_var 0) (okav_cons ((ok_int _)).fe okav_nil)))).fe)
  (oks_seq (oks_asg 2 ((ok_op good_add ((ok_int _)).fr ((ok_mod (ok_vr 1) ((ok_int _)).fr)).fr)).fe)
  (oks_seq (oks_asg 3 ((ok_call (okav_cons (ok_var 0) (okav_cons ((ok_int _)).fe (okav_cons (ok_var 2) (okav_cons ((ok_tup (okav_cons ((ok_mod ((ok_fdiv (ok_vr 1) ((ok_int _)).fr)).fr ((ok_int _)).fr)).fe (okav_cons ((ok_mod ((ok_fdiv (ok_vr 1) ((ok_int _)).fr)).fr ((ok_int _)).fr)).fe okav_nil)))).fe (okav_cons ((ok_mod ((ok_fdiv (ok_vr 1) ((ok_int _)).fr)).fr ((ok_int _)).fr)).fe okav_nil))))))).fe)
  (oks_seq (oks_asg 4 ((ok_lst (okav_cons (ok_op good_ix ((ok_op good_ix (ok_vr 3) ((ok_int _)).fr)).er ((ok_int _)).fr) (okav_cons (ok_op good_ix ((ok_op good_ix (ok_vr 3) ((ok_int _)).fr)).er ((ok_int _)).fr) okav_nil)))).fe)
  (oks_seq (oks_asg 5 ((ok_lst (okav_cons (ok_var 2) (okav_cons ((ok_sub ((ok_int _)).fr ((ok_int _)).fr)).fe (okav_cons (ok_non).fe (okav_cons ((ok_bl _)).fe (okav_cons ((ok_bl _)).fe (okav_cons ((ok_str _)).fe (okav_cons ((ok_tup (okav_cons ((ok_int _)).fe okav_nil))).fe (okav_cons ((ok_lst (okav_cons ((ok_int _)).fe okav_nil))).fe (okav_cons ((ok_op good_add (ok_vr 2) ((ok_int _)).fr)).fe (okav_cons ((ok_pow ((ok_int _)).fr ((ok_int _)).fr)).fe (okav_cons ((ok_str _)).fe (okav_cons ((ok_tup okav_nil)).fe (okav_cons ok_dic okav_nil))))))))))))))).fe)
  (oks_seq (oks_asg 6 ((ok_lst (okav_cons ((ok_tup (okav_cons ((ok_op good_add ((ok_op good_ix (ok_vr 4) ((ok_int _)).fr)).er ((ok_int _)).fr)).fe (okav_cons ((ok_int _)).fe okav_nil)))).fe (okav_cons ((ok_tup (okav_cons ((ok_int _)).fe (okav_cons ((ok_op good_add ((ok_op good_ix (ok_vr 4) ((ok_int _)).fr)).er ((ok_int _)).fr)).fe okav_nil)))).fe (okav_cons ((ok_tup (okav_cons ((ok_sub ((ok_int _)).fr ((ok_int _)).fr)).fe (okav_cons ((ok_int _)).fe okav_nil)))).fe (okav_cons ((ok_tup (okav_cons ((ok_int _)).fe (okav_cons ((ok_sub ((ok_int _)).fr ((ok_int _)).fr)).fe okav_nil)))).fe (okav_cons ((ok_tup (okav_cons ((ok_int _)).fe okav_nil))).fe (okav_cons ((ok_tup (okav_cons ((ok_int _)).fe (okav_cons ((ok_int _)).fe (okav_cons ((ok_int _)).fe okav_nil))))).fe (okav_cons ((ok_lst (okav_cons ((ok_int _)).fe (okav_cons ((ok_int _)).fe okav_nil)))).fe (okav_cons ((ok_tup (okav_cons ((ok_bl _)).fe (okav_cons ((ok_int _)).fe okav_nil)))).fe (okav_cons ((ok_tup (okav_cons ((ok_int _)).fe (okav_cons (ok_non).fe okav_nil)))).fe okav_nil))))))))))).fe)
  (oks_seq (oks_asg 6 ((ok_op good_add (ok_vr 6) ((ok_lst (okav_cons (ok_non).fe (okav_cons ((ok_str _)).fe (okav_cons ((ok_tup (okav_cons ((ok_pow ((ok_int _)).fr ((ok_int _)).fr)).fe (okav_cons ((ok_int _)).fe okav_nil)))).fe (okav_cons ((ok_int _)).fe okav_nil)))))).fr)).fe)
  (oks_seq (oks_for (oki_rng2 (b:=true) (oka_cons ((ok_int _)).fr (oka_cons ((ok_int _)).fr oka_nil))) (okg_nm 7) (oks_seq (oks_asg 8 ((ok_call (okav_cons (ok_var 0) (okav_cons (ok_var 7) okav_nil)))).fe)
  (oks_seq (oks_asg 9 (ok_op good_ix ((ok_lst (okav_cons ((ok_lst okav_nil)).fe (okav_cons ((ok_lst (okav_cons ((ok_tup (okav_cons ((ok_int _)).fe (okav_cons ((ok_sub ((ok_int _)).fr ((ok_int _)).fr)).fe okav_nil)))).fe okav_nil))).fe (okav_cons ((ok_lst (okav_cons ((ok_tup (okav_cons (ok_non).fe (okav_cons (ok_non).fe okav_nil)))).fe okav_nil))).fe okav_nil))))).fr ((ok_mod (ok_vr 8) ((ok_int _)).fr)).fr))
  (oks_seq (oks_asg 10 ((ok_mod ((ok_fdiv (ok_vr 8) ((ok_int _)).fr)).fr (ok_vr 2))).fe)
  (oks_seq (oks_asg 11 ((ok_tup (okav_cons ((ok_mod ((ok_fdiv (ok_vr 8) ((ok_int _)).fr)).fr ((ok_op good_add ((ok_op good_ix (ok_vr 4) ((ok_int _)).fr)).er ((ok_int _)).fr)).fr)).fe (okav_cons ((ok_mod ((ok_fdiv (ok_vr 8) ((ok_int _)).fr)).fr ((ok_op good_add ((ok_op good_ix (ok_vr 4) ((ok_int _)).fr)).er ((ok_int _)).fr)).fr)).fe okav_nil)))).fe)
  (oks_seq (oks_asg 12 ((ok_mod ((ok_fdiv (ok_vr 8) ((ok_int _)).fr)).fr ((ok_int _)).fr)).fe)
  (oks_seq (oks_if (ok_eor (ok_tst (ok_op good_eq (ok_vr 12) ((ok_int _)).fr).fr) (ok_tst (ok_op good_eq (ok_vr 12) ((ok_int _)).fr).fr)) (oks_asg 11 (ok_op good_ix (ok_vr 6) ((ok_mod ((ok_fdiv (ok_vr 8) ((ok_int _)).fr)).fr ((ok_int _)).fr)).fr)) oks_skip)
  (oks_seq (oks_if (ok_tst (ok_gt (ok_vr 12) ((ok_int _)).fr).fr) (oks_asg 10 (ok_op good_ix (ok_vr 5) ((ok_mod ((ok_fdiv (ok_vr 8) ((ok_int _)).fr)).fr ((ok_int _)).fr)).fr)) oks_skip)
  (oks_seq (oks_tas ((ok_call (okav_cons (ok_var 3) (okav_cons (ok_var 10) (okav_cons (ok_var 11) (okav_cons (ok_var 9) okav_nil)))))).fe (okg_tp (okgs_cons (okg_nm 13) (okgs_cons (okg_nm 14) okgs_nil))))
  (oks_seq (oks_if (ok_eand (ok_tst (ok_gt (ok_vr 12) ((ok_int _)).fr).fr) (ok_eor (ok_tst (ok_op good_eq ((ok_call (okav_cons (ok_var 14) okav_nil))).fr ((ok_lst (okav_cons ((ok_int _)).fe (okav_cons ((ok_int _)).fe (okav_cons ((ok_int _)).fe okav_nil))))).fr).fr) (ok_enot (ok_tru ((ok_call (okav_cons (ok_fld (ok_vr 14)) (okav_cons (ok_var 10) okav_nil)))).fr)))) (oks_ret (ok_bl _)) oks_skip)
  (oks_seq (oks_if (ok_eand (ok_tst (ok_op good_eq (ok_vr 12) ((ok_int _)).fr).fr) (ok_eor (ok_tst (ok_op good_eq ((ok_call (okav_cons (ok_var 14) okav_nil))).fr ((ok_lst (okav_cons ((ok_int _)).fe (okav_cons ((ok_int _)).fe (okav_cons ((ok_int _)).fe okav_nil))))).fr).fr) (ok_enot (ok_tru ((ok_call (okav_cons (ok_fld (ok_vr 14)) (okav_cons (ok_var 11) okav_nil)))).fr)))) (oks_ret (ok_bl _)) oks_skip)
  (oks_seq (oks_if (ok_eand (ok_tst (ok_op good_eq (ok_vr 12) ((ok_int _)).fr).fr) (ok_eand (ok_tst (ok_op good_eq (ok_vr 9) ((ok_lst okav_nil)).fr).fr) (ok_eor (ok_tst (ok_op good_is (ok_vr 14) (ok_non).fr).fr) (ok_tst (ok_op good_eq (ok_vr 13) ((ok_lst okav_nil)).fr).fr)))) (oks_ret (ok_bl _)) oks_skip)
  (oks_if (ok_eand (ok_tst (ok_op good_eq (ok_vr 12) ((ok_int _)).fr).fr) (ok_eand (ok_tst (ok_op good_eq (ok_vr 9) ((ok_lst okav_nil)).fr).fr) (ok_tst (ok_op good_eq ((ok_call (okav_cons (ok_var 14) okav_nil))).fr ((ok_lst (okav_cons ((ok_int _)).fe (okav_cons ((ok_int _)).fe (okav_cons ((ok_int _)).fe okav_nil))))).fr).fr))) (oks_ret (ok_bl _)) oks_skip)))))))))))))
  (oks_ret (ok_bl _))))))))))⟩
end
theorem all_mk {l:PySem.W.OpenLaw}{w:World}{K:PySem.W.Frag}{h:Heap}{mg:Str->Option Value}{fa:Addr}(X:K.In h) (G:h.Ns mainGlobals mg) (hfa:mg "law"=some (.ref fa))
  (h0:Fx K "is_whole" s_is_whole) (h1:Fx K "is_whole_within" s_is_whole_within) (h2:Fx K "is_from_nought_on" s_is_from_nought_on) (h3:Fx K "is_row_within" s_is_row_within) (h4:Fx K "places_of" s_places_of) (h5:Fx K "check_place" s_check_place) (h6:Fx K "check_pair" s_check_pair) (h7:Fx K "stall_at" s_stall_at) (h8:Fx K "is_way" s_is_way) (h9:Fx K "step_by" s_step_by) (h10:Fx K "change_by" s_change_by) (h11:Fx K "change_at" s_change_at) (h12:Fx K "check_way_from" s_check_way_from) (h13:Fx K "made_ready" s_made_ready) (h14:Fx K "behind_deed" s_behind_deed) (h15:Fx K "run" s_run) (h16:Fx K "_law_mixed" s_law_mixed) (h17:Fx K "_law_ways" s_law_ways) (h18:Fx K "_law_stalls" s_law_stalls) (h19:Fx K "_law_stall_cell" s_law_stall_cell) (h20:Fx K "_law_floor" s_law_floor) (h21:Fx K "_law_kinds" s_law_kinds) (h22:Fx K "_law_like" s_law_like) (h23:Fx K "_law_asked" s_law_asked) (h24:Fx K "law" s_law)
  (i_NoChange:Ei K "NoChange" "times" ini_NoChange)
  (i_NoPair:Ei K "NoPair" "pair" ini_NoPair)
  (i_NoPlace:Ei K "NoPlace" "place" ini_NoPlace)
  (i_NoWay:Ei K "NoWay" "way" ini_NoWay)
  (o_NoChange:Ec K "NoChange")
  (o_NoCount:Ec K "NoCount")
  (o_NoFloor:Ec K "NoFloor")
  (o_NoMore:Ec K "NoMore")
  (o_NoName:Ec K "NoName")
  (o_NoPair:Ec K "NoPair")
  (o_NoPlace:Ec K "NoPlace")
  (o_NoRow:Ec K "NoRow")
  (o_NoWay:Ec K "NoWay")
  (hVE:PySem.W.nsIn K mainGlobals "ValueError"=some none)
  (y0:PySem.W.nsIn K mainGlobals "set"=some none) (y1:PySem.W.nsIn K mainGlobals "zip"=some none) (y2:PySem.W.nsIn K mainGlobals "enumerate"=some none)
  (z0:PySem.W.nsIn K mainGlobals "len"=some none) (z1:PySem.W.nsIn K mainGlobals "range"=some none) (z2:PySem.W.nsIn K mainGlobals "any"=some none) (z3:PySem.W.nsIn K mainGlobals "all"=some none) (z4:PySem.W.nsIn K mainGlobals "sorted"=some none) (z5:PySem.W.nsIn K mainGlobals "isinstance"=some none) (z6:PySem.W.nsIn K mainGlobals "bool"=some none) (z7:PySem.W.nsIn K mainGlobals "int"=some none) (z8:PySem.W.nsIn K mainGlobals "str"=some none) (z9:PySem.W.nsIn K mainGlobals "list"=some none) (z10:PySem.W.nsIn K mainGlobals "tuple"=some none) (z11:PySem.W.nsIn K mainGlobals "max"=some none) (z12:PySem.W.nsIn K mainGlobals "min"=some none):
  ∃ fd:FuncData,(∀ (s:Shared) (v:Value),BindsTo s fd ⟨[v],[]⟩ [("_law_script",v)])/\∀ base:Heap,K.In base->base.Ns mainGlobals mg->FnOk l.prog w K mg base CX0 10 fa fd ["_law_script"] (upP K (spF RkF F_law)):=by
 have T:Bt mg:=⟨PySem.W.mg_none_of X G z0,PySem.W.mg_none_of X G z1,PySem.W.mg_none_of X G z2,PySem.W.mg_none_of X G z3,PySem.W.mg_none_of X G z4,PySem.W.mg_none_of X G z5,PySem.W.mg_none_of X G z6,PySem.W.mg_none_of X G z7,PySem.W.mg_none_of X G z8,PySem.W.mg_none_of X G z9,PySem.W.mg_none_of X G z10,PySem.W.mg_none_of X G z11,PySem.W.mg_none_of X G z12⟩
 have U:Bq mg:=⟨PySem.W.mg_none_of X G y0,PySem.W.mg_none_of X G y1,PySem.W.mg_none_of X G y2⟩
 replace i_NoChange:=i_NoChange.mk X G
 replace i_NoPair:=i_NoPair.mk X G
 replace i_NoPlace:=i_NoPlace.mk X G
 replace i_NoWay:=i_NoWay.mk X G
 have o_PurseError:=o_NoChange.par X G
 replace o_NoChange:=o_NoChange.mk X G
 replace o_NoCount:=o_NoCount.mk X G
 replace o_NoFloor:=o_NoFloor.mk X G
 replace o_NoMore:=o_NoMore.mk X G
 replace o_NoName:=o_NoName.mk X G
 replace o_NoPair:=o_NoPair.mk X G
 replace o_NoPlace:=o_NoPlace.mk X G
 replace o_NoRow:=o_NoRow.mk X G
 replace o_NoWay:=o_NoWay.mk X G
 replace hVE:=PySem.W.mg_none_of X G hVE
 obtain⟨fd,Fl,hb⟩:=h24.law X G hfa λ _ _ _ _ _ _ _ _=>.of_eq rfl
 refine⟨fd,hb,λ base _ _=>?_⟩
 have G_is_whole:=ok_is_whole l.prog w base T U (h0.mk X G)
 have G_places_of:=ok_places_of l.prog w base T U (h4.mk X G)
 have G_step_by:=ok_step_by l.prog w base T U (h9.mk X G)
 have G_change_by:=ok_change_by l.prog w base T U (h10.mk X G)
 have G_law_mixed:=ok_law_mixed l.prog w base T U (h16.mk X G)
 have G_law_stalls:=ok_law_stalls l.prog w base T U (h18.mk X G)
 have G_law_kinds:=ok_law_kinds l.prog w base T U (h21.mk X G) o_NoChange o_NoCount o_NoFloor o_NoMore o_NoName o_NoPair o_NoPlace o_NoRow o_NoWay o_PurseError hVE
 have G_law_like:=ok_law_like l.prog w base T U (h22.mk X G)
 have G_is_whole_within:=ok_is_whole_within l.prog w base T U (h1.mk X G) G_is_whole
 have G_is_from_nought_on:=ok_is_from_nought_on l.prog w base T U (h2.mk X G) G_is_whole
 have G_law_ways:=ok_law_ways l.prog w base T U (h17.mk X G) G_law_mixed
 have G_law_stall_cell:=ok_law_stall_cell l.prog w base T U (h19.mk X G) G_law_mixed
 have G_is_row_within:=ok_is_row_within l.prog w base T U (h3.mk X G) G_is_whole_within
 have G_check_place:=ok_check_place l.prog w base T U (h5.mk X G) i_NoPlace G_is_whole_within G_places_of
 have G_is_way:=ok_is_way l.prog w base T U (h8.mk X G) G_is_whole_within
 have G_law_floor:=ok_law_floor l.prog w base T U (h20.mk X G) G_law_mixed G_law_stalls G_law_ways G_law_stall_cell
 have G_check_pair:=ok_check_pair l.prog w base T U (h6.mk X G) i_NoPair G_is_row_within
 have G_stall_at:=ok_stall_at l.prog w base T U (h7.mk X G) G_check_place
 have G_check_way_from:=ok_check_way_from l.prog w base T U (h12.mk X G) i_NoWay G_is_way
 have G_change_at:=ok_change_at l.prog w base T U (h11.mk X G) G_stall_at G_change_by
 have G_made_ready:=ok_made_ready l.prog w base T U (h13.mk X G) i_NoChange G_change_at G_is_from_nought_on
 have G_behind_deed:=ok_behind_deed l.prog w base T U (h14.mk X G) G_check_way_from G_made_ready G_step_by
 have G_run:=ok_run l.prog w base T U (h15.mk X G) G_check_place G_check_pair G_behind_deed
 have G_law_asked:=ok_law_asked l.prog w base T U (h23.mk X G) G_run
 exact ok_law l.prog w base T U Fl G_law_mixed G_law_floor G_law_asked G_law_kinds G_law_like
theorem walk {l:PySem.W.OpenLaw}{q:Program}{loose:List Str}{XP:(Str->Option Value)->Heap->Prop}{YP:World->Heap->Prop}{d:DefRec}{K:Params->PySem.W.Frag}(hn:l.most=some 63) (hdf:d.params.defaults=[])
  (hY:∀ (w:World) (h:Heap),YP w h->(K w.params).In h)
  (F:∀ (w:World) (mg:Str->Option Value) (fa:Addr) (h:Heap),(K w.params).In h->h.Ns mainGlobals mg->mg d.name=some (.ref fa)->
   ∃ fd:FuncData,(∀ (s:Shared) (u:Value),BindsTo s fd ⟨[u],[]⟩ [("_law_script",u)])/\∀ base:Heap,(K w.params).In base->base.Ns mainGlobals mg->FnOk l.prog w (K w.params) mg base CX0 10 fa fd ["_law_script"] (upP (K w.params) (spF RkF F_law))):
  PySem.W.WalkO q loose XP YP l.row.toRowW d [] (λ f vs=>PySem.call f vs):=
 L2.walk_of (n:=63) (k:=10) (x:="_law_script") (CX:=λ _=>CX0) (sp:=λ w=>upP (K w.params) (spF RkF F_law)) hn (by decide) hdf ⟨rfl,by decide,by decide⟩ hY F (λ _ _ a ns hl hO hS=>law5 law_true hO hS hl) λ _ _ _ _ _ z=>z
end K24
open PySem PySem.W PyProof.Rows
set_option maxRecDepth 100000 in
set_option maxHeartbeats 0 in
theorem PySem.Challenge.cw_purseborder_k24_runs_begun_elsewhere_holds : PySem.Challenge.rw_purseborder_k24_runs_begun_elsewhere.Holds := by
 w_on;o_law;k_head;(case hw=>w_witness2)
 k_fill
 refine K24.walk (l:=PySem.Challenge.rw_purseborder_k24_runs_begun_elsewhere) rfl rfl (λ w h Y=>PySem.W.kIn_of Y) ?F
 case F=>
  intro w mg fa h KX G hmg
  refine' K24.all_mk KX G hmg ?_ ?_ ?_ ?_ ?_ ?_ ?_ ?_ ?_ ?_ ?_ ?_ ?_ ?_ ?_ ?_ ?_ ?_ ?_ ?_ ?_ ?_ ?_ ?_ ?_ ?_ ?_ ?_ ?_ ?_ ?_ ?_ ?_ ?_ ?_ ?_ ?_ ?_ ?_ ?_ ?_ ?_ ?_ ?_ ?_ ?_ ?_ ?_ ?_ ?_ ?_ ?_ ?_ ?_ ?_
  all_goals first | exact L3.Ei.i (by k_is) (by k_is) (by k_is) (by k_is) (by kernel_rfl) (by k_is) (by k_is) (by k_is) (by k_is) (by k_is) (by k_is) | exact L3.Ec.i (by k_is) (by k_is) (by k_is) (by k_is) (by kernel_rfl) | exact L5.Fx.i (by k_is) (by k_is) (by k_is) (by k_is) | k_is | exact L5.Cn.i (by k_is) (by exact⟨_,rfl⟩)
