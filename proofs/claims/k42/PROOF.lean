import PyProof.Rows.All
import Wide.All
import OpenK.AllK
import Wide.FinOn
import Lean
import PyProof.EqAt
import PyProof.EqKinds
import PyProof.TupleCall
import PySem.SetOps
import PyProof.SetScanFacts
import PyProof.TupleKey
import PyProof.SetKind
import PyProof.SetRoads
import PyProof.IsRules
import PyProof.ZipIter
import PyProof.TupleIter
import PyProof.ListMulRoad
import PyProof.FactsAll.tuple
import PyProof.ListRange
import PyProof.Draws
import PyProof.EnumFor
import PyProof.Rows.ListMul
import PyProof.AutoListH
import PySem.Challenge.RW_purseborder_k42_the_table_walked
set_option Elab.async false
set_option linter.all false
set_option maxRecDepth 100000
noncomputable section
noncomputable def zWb:=@PySem.wpAny_bind
noncomputable def zHp:=@PySem.Heap.get?_push_of_some
theorem zOb {α β:Type}{x:Option α}{f:α->Option β}{b:β} (h:x.bind f=some b):∃ a,x=some a/\f a=some b:=Option.bind_eq_some_iff.mp h
theorem zOm {α β:Type}{x:Option α}{f:α->β}{b:β} (h:x.map f=some b):∃ a,x=some a/\f a=b:=Option.map_eq_some_iff.mp h
theorem zMc {α:Type}{a:α}{l:List α}:a∈a::l:=List.mem_cons_self
theorem zMo {α:Type} (y:α) {a:α}{l:List α} (h:a∈l):a∈y::l:=List.mem_cons_of_mem y h
namespace L2
open PySem PySem.Spec PyProof.Rows
abbrev Key:=Sum Int Str
noncomputable def oG:Key->Value->Bool
 | .inl k,v=>Value.isInt k v
 | .inr x,v=>Value.isStrOf x v
noncomputable def Q1 (w:World):Key->Int
 | .inl k=>hashInt k
 | .inr x=>hashStr w x
theorem r9:∀ {k:Key}{v:Value},oG k v=true->(∃ i t,k=Sum.inl i/\v=Value.int i t)\/(∃ x t,k=Sum.inr x/\v=Value.str x t)
 | .inl i,v,h=>by
  obtain⟨t,e⟩:=Value.isInt_shape (k:=i) (v:=v) h;exact .inl ⟨i,t,rfl,e⟩
 | .inr x,v,h=>by
  obtain⟨t,e⟩:=Value.isStrOf_shape (x:=x) (v:=v) h;exact .inr ⟨x,t,rfl,e⟩
theorem Q0 (i:Int) (t:Tok):oG (.inl i) (.int i t)=true:=by simp[oG,Value.isInt]
theorem Qz (x:Str) (t:Tok):oG (.inr x) (.str x t)=true:=by simp[oG,Value.isStrOf]
theorem Qy (a b:Int):decide ((Sum.inl a:Key)=Sum.inl b)=(a == b):=by
 by_cases e:a=b
 .subst e;simp
 .have h:¬ (Sum.inl a:Key)=Sum.inl b:=λ q=>e (Sum.inl.inj q);rw[decide_eq_false h];exact (beq_eq_false_iff_ne.mpr e).symm
theorem Qv (a b:Str):decide ((Sum.inr a:Key)=Sum.inr b)=decide (a=b):=by
 by_cases e:a=b
 .subst e;simp
 .have h:¬ (Sum.inr a:Key)=Sum.inr b:=λ q=>e (Sum.inr.inj q);rw[decide_eq_false h,decide_eq_false e]
theorem Qx (a:Int) (b:Str):decide ((Sum.inl a:Key)=Sum.inr b)=false:=decide_eq_false (λ q=>nomatch q)
theorem Qw (a:Str) (b:Int):decide ((Sum.inr a:Key)=Sum.inl b)=false:=decide_eq_false (λ q=>nomatch q)
noncomputable def vw (prog:Program) (w:World):PySem.KeyKind prog w Key where
 is:=oG
 hash:=Q1 w
 inj:=λ v a b ha hb=>by
  rcases r9 ha with ⟨i,t,rfl,rfl⟩ | ⟨x,t,rfl,rfl⟩
  .rcases r9 hb with ⟨j,u,rfl,e⟩ | ⟨y,u,rfl,e⟩
   .injection e with e1 _;rw[e1]
   .exact nomatch e
  .rcases r9 hb with ⟨j,u,rfl,e⟩ | ⟨y,u,rfl,e⟩
   .exact nomatch e
   .injection e with e1 _;rw[e1]
 byValue:=λ k v h=>by
  rcases r9 h with ⟨i,t,rfl,rfl⟩ | ⟨x,t,rfl,rfl⟩ <;> rfl
 pyHash:=λ hv h=>by
  rcases r9 hv with ⟨i,t,rfl,rfl⟩ | ⟨x,t,rfl,rfl⟩
  .exact wpAny_pyHash_int h
  .exact wpAny_pyHash_str h
 eqBool:=λ hu hv h=>by
  rcases r9 hu with ⟨i,t,rfl,rfl⟩ | ⟨x,t,rfl,rfl⟩
  .rcases r9 hv with ⟨j,u,rfl,rfl⟩ | ⟨y,u,rfl,rfl⟩
   .rw[Qy] at h;exact wpAny_eqBool_int h
   .rw[Qx] at h;exact SeqAt.EqAt.int_str i t y u _ _ _ _ h
  .rcases r9 hv with ⟨j,u,rfl,rfl⟩ | ⟨y,u,rfl,rfl⟩
   .rw[Qw] at h;exact SeqAt.EqAt.str_int x t j u _ _ _ _ h
   .rw[Qv] at h;exact wpAny_eqBool_str h
 «strs»:=λ k x t v h=>by
  rcases r9 h with ⟨i,u,rfl,e⟩ | ⟨y,u,rfl,e⟩
  .exact nomatch e
  .injection e with e1 _
   subst e1;cases v <;> rfl
theorem RW (prog:Program) (w:World) (i:Int) (t:Tok):(vw prog w).is (.inl i) (.int i t)=true:=Q0 i t
theorem RV (prog:Program) (w:World) (x:Str) (t:Tok):(vw prog w).is (.inr x) (.str x t)=true:=Qz x t
end L2
namespace L2
open PySem PySem.Spec PyProof.Rows
inductive V where
 | zl | bl (b:Bool) | int (i:Int) | str (x:Str) | oW (b:Array UInt8) | jj (b:UInt64) | ref (a:Addr) | ty (n:String)
 deriving DecidableEq
noncomputable def RelV:V->Value->Prop
 | .zl,u=>u=Value.none
 | .bl b,u=>u=Value.bool b
 | .int i,u=>∃ t,u=Value.int i t
 | .str x,u=>∃ t,u=Value.str x t
 | .oW b,u=>∃ t,u=Value.bytes b t
 | .jj b,u=>∃ t,u=Value.float b t
 | .ref a,u=>u=Value.ref a
 | .ty n,u=>u=Value.type n
abbrev Vals:List V->List Value->Prop:=Paired RelV
theorem Vals.length {xs:List V}{us:List Value}(r:Vals xs us):xs.length=us.length:=Paired.length r
theorem Vals.get:∀ {xs:List V}{us:List Value}{i:Nat}{x:V},Vals xs us->xs[i]?=some x->∃ u,us[i]?=some u/\RelV x u
 | _,_,_,_,.nil,e=>by simp at e
 | _,_,0,_,.cons r _,e=>by simp at e;subst e;exact⟨_,rfl,r⟩
 | _,_,i+1,x,.cons _ t,e=>by
  obtain⟨u,h1,h2⟩:=Vals.get (i:=i) (x:=x) t (by simpa using e);exact⟨u,by simpa using h1,h2⟩
theorem Vals.set {x:V}{u:Value}(r:RelV x u):∀ {xs:List V}{us:List Value}(i:Nat),Vals xs us->Vals (xs.set i x) (us.set i u)
 | _,_,_,.nil=>.nil
 | _,_,0,.cons _ t=>.cons r t
 | _,_,i+1,.cons q t=>.cons q (Vals.set r i t)
theorem Vals.append:∀ {xs ys:List V}{us ws:List Value},Vals xs us->Vals ys ws->Vals (xs++ys) (us++ws)
 | _,_,_,_,.nil,s=>s
 | _,_,_,_,.cons r t,s=>.cons r (Vals.append t s)
theorem Vals.take:∀ {xs:List V}{us:List Value}(n:Nat),Vals xs us->Vals (xs.take n) (us.take n)
 | _,_,0,_=>.nil
 | _,_,_+1,.nil=>.nil
 | _,_,n+1,.cons r t=>.cons r (Vals.take n t)
theorem Vals.drop:∀ {xs:List V}{us:List Value}(n:Nat),Vals xs us->Vals (xs.drop n) (us.drop n)
 | _,_,0,r=>r
 | _,_,_+1,.nil=>.nil
 | _,_,n+1,.cons _ t=>Vals.drop n t
noncomputable def tm:Option V->Option Value->Prop
 | some v,some u=>RelV v u
 | none,none=>True
 | _,_=>False
def KV {κ:Type}:List (κ × V)->List (κ × Value)->Prop:=Paired λ(p:κ × V) (q:κ × Value)=>p.1=q.1/\RelV p.2 q.2
noncomputable def kV:Key->V
 | .inl i=>.int i
 | .inr x=>.str x
inductive HO where
  | lst (xs:List V)
  | tup (xs:List V)
  | dK (kvs:List (Key×V)) | dT (kvs:List (List Key×V))
  | set (S:Int->Bool) (n:Nat)
  | ins (C dx:Addr) (fs:List (Str×V))
  | own (x:Addr)
  | xd (fs:List (Str×V))
  | met (f x:Addr)
  | gw (lo hi:Int)
  | vd (o:Obj) (u:HO)
  | qM (ps:Array Value)
  | ext (φ:Heap->Prop)
abbrev Hp:=Addr->Option HO
noncomputable def upd (H:Hp) (a:Addr) (o:HO):Hp:=λ b=>if b=a then some o else H b
theorem xa {H:Hp}{a:Addr}{o:HO}:upd H a o a=some o:=by unfold upd;rw[if_pos rfl]
theorem xg {H:Hp}{a b:Addr}{o:HO}(h:b≠a):upd H a o b=H b:=by unfold upd;rw[if_neg h]
theorem mF {H:Hp}{a b:Addr}{o u:HO}(h:H a=some o) (h':H b=some u) (d:o≠u):a≠b:=by
 intro e;subst e;rw[h] at h';exact d (Option.some.inj h')
theorem ql {H:Hp}{a b:Addr}{o:HO}(h:H a=some o) (h':H b=none):a≠b:=by
 intro e;subst e;rw[h] at h';cases h'
section
variable (P:Program) (w:World)
noncomputable def xM (H:Hp) (h:Heap) (a:Addr):HO->Prop
 | .lst xs=>xs.length<=sizeLine/\∃ (its:List Value) (n:Nat),Vals xs its/\h.get? a=some { cls:=.type "list",data:=.seq its.toArray n }
 | .tup xs=>xs.length<=sizeLine/\∃ its:List Value,Vals xs its/\IsTup h a its.toArray
 | .dK kvs=>kvs.length<=sizeLine/\(a == sysModules)=false/\∃ vs,KV kvs vs/\h.DictOf (vw P w) a vs
 | .dT kvs=>kvs.length<=sizeLine/\(a == sysModules)=false/\∃ xs:List (List Key×Addr×Value),
   Paired (λ(p:List Key×V) (q:List Key×Addr×Value)=>p.1=q.1/\H q.2.1=some (.tup (p.1.map kV))/\RelV p.2 q.2.2) kvs xs/\
   ∃ o es ep,h.get? a=some o/\o.ExactDict/\o.data=.dict es ep/\es.toList=xs.map (entryOfKey (tupleKind (vw P w)))/\(xs.map (·.1)).Nodup
 | .set S n=>h.SetOf (intKind P w) a S n
 | .ins C dx fs=>H dx=some (.own a)/\fs.length<=1000/\dx≠a/\h.get? a=some (PySem.W.instObj C dx)/\
   ∃ mA,h.Ns1 dx mA/\(∀ f,tm (fs.lookup f) (mA f))/\PySem.Within mA (fs.map (·.1))
 | .own _=>∃ o,h.get? a=some o
 | .xd fs=>∃ mA,h.Ns1 a mA/\∀ f,tm (fs.lookup f) (mA f)
 | .gw lo hi=>∃ t u v,h.get? a=some { cls:=.type "range",data:=.fields #[.int lo t,.int hi u,.int 1 v] }
 | .vd o u=>h.get? a=some o/\xM H h a u
 | .qM ps=>h.get? a=some { cls:=.none,data:=.fields ps }
 | .met f x=>h.get? a=some (PySem.W.methodObj (.ref f) (.ref x))
 | .ext φ=>φ h/\(∃ o,h.get? a=some o)/\∀ h1 h2:Heap,φ h1->(∀ o,h1.get? a=some o->h2.get? a=some o)->φ h2
def x8 (H:Hp) (h:Heap):Prop:=∀ a o,H a=some o->xM P w H h a o
end
section
variable {P:Program}{w:World}{H H':Hp}{h h':Heap}{a:Addr}{o:HO}
theorem xM.lt (x:xM P w H h a o):a<h.objs.size:=by
 cases o with
 | lst xs=>obtain⟨_,_,_,_,e⟩:=x;exact Heap.lt_size e
 | tup xs=>obtain⟨_,_,_,p⟩:=x;exact p.lt
 | dK kvs=>obtain⟨_,_,_,_,o,_,_,e,_⟩:=x;exact Heap.lt_size e
 | dT kvs=>obtain⟨_,_,_,_,o,_,_,e,_⟩:=x;exact Heap.lt_size e
 | set S n=>obtain⟨o,_,_,_,e,_⟩:=x;exact Heap.lt_size e
 | ins C dx fs=>obtain⟨_,_,_,e,_⟩:=x;exact Heap.lt_size e
 | own y=>obtain⟨_,e⟩:=x;exact Heap.lt_size e
 | xd fs=>obtain⟨_,⟨_,_,_,e,_⟩,_⟩:=x;exact Heap.lt_size e
 | gw lo hi=>obtain⟨_,_,_,e⟩:=x;exact Heap.lt_size e
 | vd ob u=>obtain⟨e,_⟩:=x;exact Heap.lt_size e
 | qM ps=>exact Heap.lt_size (show h.get? a=some _ from x)
 | met f y=>exact Heap.lt_size (show h.get? a=some _ from x)
 | ext φ=>obtain⟨_,⟨_,e⟩,_⟩:=x;exact Heap.lt_size e
theorem Paired.k_ {α β:Type}{F G:α->β->Prop}:∀ {l₁:List α}{l₂:List β},Paired F l₁ l₂->(∀ a b,F a b->G a b)->Paired G l₁ l₂
 | _,_,.nil,_=>.nil
 | _,_,.cons r t,f=>.cons (f _ _ r) (Paired.k_ t f)
theorem xM.ra (x:xM P w H h a o) (k:∀ b u,(b=a\/H b=some (.own a))->h.get? b=some u->h'.get? b=some u)
  (ho:∀ b,H b=some (.own a)->H' b=some (.own a)) (ht:∀ b xs,H b=some (.tup xs)->H' b=some (.tup xs)):xM P w H' h' a o:=by
 induction o with
 | lst xs=>obtain⟨z,its,n,r,e⟩:=x;exact⟨z,its,n,r,k _ _ (.inl rfl) e⟩
 | tup xs=>obtain⟨z,its,r,ob,e,c⟩:=x;exact⟨z,its,r,ob,k _ _ (.inl rfl) e,c⟩
 | dK kvs=>obtain⟨z,y,vs,r,ob,es,ep,e,c⟩:=x;exact⟨z,y,vs,r,ob,es,ep,k _ _ (.inl rfl) e,c⟩
 | dT kvs=>
  obtain⟨z,y,xs,r,ob,es,ep,e,c⟩:=x;exact⟨z,y,xs,Paired.k_ r λ p q z=>⟨z.1,ht _ _ z.2.1,z.2.2⟩,ob,es,ep,k _ _ (.inl rfl) e,c⟩
 | set S n=>obtain⟨ob,es,ep,t,e,c⟩:=x;exact⟨ob,es,ep,t,k _ _ (.inl rfl) e,c⟩
 | ins C dx fs=>
  obtain⟨d,z,ne,e,mA,⟨od,es,ep,e2,c⟩,r⟩:=x;exact⟨ho _ d,z,ne,k _ _ (.inl rfl) e,mA,⟨od,es,ep,k _ _ (.inr d) e2,c⟩,r⟩
 | own y=>obtain⟨ob,e⟩:=x;exact⟨ob,k _ _ (.inl rfl) e⟩
 | xd fs=>obtain⟨mA,⟨od,es,ep,e,c⟩,r⟩:=x;exact⟨mA,⟨od,es,ep,k _ _ (.inl rfl) e,c⟩,r⟩
 | gw lo hi=>obtain⟨t,u,v,e⟩:=x;exact⟨t,u,v,k _ _ (.inl rfl) e⟩
 | vd ob u ih=>obtain⟨e,q⟩:=x;exact⟨k _ _ (.inl rfl) e,ih q⟩
 | qM ps=>
  have e:h.get? a=some { cls:=.none,data:=.fields ps }:=x;show h'.get? a=some { cls:=.none,data:=.fields ps };exact k a _ (.inl rfl) e
 | met f y=>
  have e:h.get? a=some (PySem.W.methodObj (.ref f) (.ref y)):=x;show h'.get? a=some (PySem.W.methodObj (.ref f) (.ref y));exact k a _ (.inl rfl) e
 | ext φ=>obtain⟨p,⟨o,e⟩,st⟩:=x;exact⟨st _ _ p λ o q=>k _ _ (.inl rfl) q,⟨o,k _ _ (.inl rfl) e⟩,st⟩
theorem x8.lt (x:x8 P w H h) (e:H a=some o):a<h.objs.size:=(x a o e).lt
theorem x8.fresh (x:x8 P w H h) (e:h.objs.size<=a):H a=none:=by
 cases q:H a with
 | none=>rfl
 | some u=>exact absurd (Nat.lt_of_lt_of_le (x.lt q) e) (Nat.lt_irrefl _)
theorem x8.kept (x:x8 P w H h) (k:∀ b u,h.get? b=some u->h'.get? b=some u):x8 P w H h':=λ a o e=>
 (x a o e).ra (λ b u _ q=>k b u q) (λ _ q=>q) λ _ _ q=>q
theorem x8.laid (x:x8 P w H h) (k:∀ b u,h.get? b=some u->h'.get? b=some u) (hp:h.objs.size<=a) (new:xM P w (upd H a o) h' a o):x8 P w (upd H a o) h':=λ b u e=>by
 have hn:=x.fresh hp;by_cases hb:b=a
 .subst hb;rw[xa] at e;cases e;exact new
 .rw[xg hb] at e;exact (x b u e).ra (λ c v _ q=>k c v q) (λ c q=>by rw[xg (ql q hn)];exact q) λ c xs q=>by rw[xg (ql q hn)];exact q
end
def Rd (H:Hp) (a:Addr) (u:HO):Prop:=H a=some u\/∃ o,H a=some (.vd o u)
theorem Rd.ok {P:Program}{w:World}{H:Hp}{h:Heap}{a:Addr}{u:HO}(r:Rd H a u) (x:x8 P w H h):xM P w H h a u:=by
 rcases r with r | ⟨o,r⟩
 .exact x a u r
 .obtain⟨_,q⟩:=x a _ r;exact q
noncomputable def lG:Option HO->Prop
 | some (.lst _)=>True
 | some (.dK _)=>True
 | some (.dT _)=>True
 | some (.set _ _)=>True
 | some (.ins _ _ _)=>True
 | some (.ext _)=>True
 | _=>False
section
variable {P:Program}{w:World}{H:Hp}{h h':Heap}{x e:Addr}{o':HO}
theorem x8.write (ok:x8 P w H h) (mu:lG (H x)) (he:e=x\/H e=some (.own x)) (k:∀ b u,b≠e->h.get? b=some u->h'.get? b=some u) (heo:∃ u,h'.get? e=some u)
  (new:xM P w (upd H x o') h' x o'):x8 P w (upd H x o') h':=λ b u q=>by
 have nown:∀ c y,H c=some (.own y)->c≠x:=λ c y r z=>by subst z;rw[r] at mu;exact mu
 have ntup:∀ c xs,H c=some (.tup xs)->c≠x:=λ c xs r z=>by subst z;rw[r] at mu;exact mu
 by_cases hb:b=x
 .subst hb;rw[xa] at q;cases q;exact new
 .rw[xg hb] at q;by_cases hbe:b=e
  .have q':H b=some (.own x):=by
    rcases he with z | z
    .exact absurd (hbe.trans z) hb
    .rw[hbe];exact z
   rw[q] at q';cases q';obtain⟨v,hv⟩:=heo;exact⟨v,by rw[hbe];exact hv⟩
  .refine (ok b u q).ra (λ c v hc r=>k c v ?_ r) (λ c r=>by rw[xg (nown c b r)];exact r) λ c xs r=>by rw[xg (ntup c xs r)];exact r
   rcases hc with rfl | hc
   .exact hbe
   .rintro rfl;rcases he with z | z
    .exact nown c b hc z
    .rw[hc] at z;cases z;exact hb rfl
end
structure Un (fs ex:List Addr) (H H':Hp) (h h':Heap):Prop where
 keep:∀ b o,h.get? b=some o->H b=none->b∉fs->b∉ex->h'.get? b=some o
 slot:∀ b o,h.get? b=some o->H b=none->b∈fs->b∉ex->∃ sl,h'.get? b=some { o with slots:=sl }
 free:∀ b o,h.get? b=some o->H b=none->b∉ex->H' b=none
 there:∀ b o,h.get? b=some o->b∉ex->∃ o',h'.get? b=some o'
 tZ:∀ b xs,H b=some (.tup xs)->H' b=some (.tup xs)
 rD:∀ b o u,H b=some (.vd o u)->H' b=some (.vd o u)
 rZ:∀ b ps,H b=some (.qM ps)->∃ more,H' b=some (.qM (ps++more))
section
variable {fs fs' ex ex':List Addr}{H H1 H2:Hp}{h h1 h2 h':Heap}{a x e:Addr}{o:HO}
theorem Un.any (u:Un fs ex H H1 h h1) {b:Addr}{ob:Obj}(q:h.get? b=some ob) (n:H b=none) (hx:b∉ex):∃ sl,h1.get? b=some { ob with slots:=sl }:=by
 by_cases hb:b∈fs
 .exact u.slot b ob q n hb hx
 .exact⟨ob.slots,u.keep b ob q n hb hx⟩
theorem Un.kept (k:∀ b u,h.get? b=some u->h'.get? b=some u):Un fs ex H H h h':=
 ⟨λ b ob q _ _ _=>k b ob q,λ b ob q _ _ _=>⟨ob.slots,k b ob q⟩,λ _ _ _ n _=>n,λ b ob q _=>⟨ob,k b ob q⟩,λ _ _ q=>q,λ _ _ _ q=>q,λ _ ps q=>⟨#[],by rw[q];simp⟩⟩
theorem Un.refl:Un fs ex H H h h:=Un.kept λ _ _ q=>q
theorem Un.laid (k:∀ b u,h.get? b=some u->h'.get? b=some u) (hp:h.objs.size<=a) (hn:H a=none):Un fs ex H (upd H a o) h h' where
 keep:=λ b u q _ _ _=>k b u q
 slot:=λ b u q _ _ _=>⟨u.slots,k b u q⟩
 free:=λ b u q n _=>by rw[xg (Nat.ne_of_lt (Nat.lt_of_lt_of_le (Heap.lt_size q) hp))];exact n
 there:=λ b u q _=>⟨u,k b u q⟩
 tZ:=λ b xs q=>by rw[xg (ql q hn)];exact q
 rD:=λ b u xs q=>by rw[xg (ql q hn)];exact q
 rZ:=λ b ps q=>⟨#[],by rw[xg (ql q hn),q];simp⟩
theorem Un.write (mu:lG (H x)) (he:e=x\/H e=some (.own x)) (k:∀ b u,b≠e->h.get? b=some u->h'.get? b=some u) (heo:∃ u,h'.get? e=some u):Un fs ex H (upd H x o) h h':=by
 have hx:∀ b,H b=none->b≠x:=λ b n z=>by subst z;rw[n] at mu;exact mu
 have hb:∀ b,H b=none->b≠e:=λ b n z=>by
  subst z;rcases he with r | r
  .exact hx b n r
  .rw[n] at r;cases r
 have hm:∀ b u,H b=some u->¬ lG (some u)->b≠x:=λ b u q nm z=>by subst z;rw[q] at mu;exact nm mu
 refine⟨λ b u q n _ _=>k b u (hb b n) q,λ b u q n _ _=>⟨u.slots,k b u (hb b n) q⟩,λ b u q n _=>by rw[xg (hx b n)];exact n,λ b u q _=>?_,
  λ b xs q=>by rw[xg (hm b _ q λ z=>z)];exact q,λ b u xs q=>by rw[xg (hm b _ q λ z=>z)];exact q,λ b ps q=>⟨#[],by rw[xg (hm b _ q λ z=>z),q];simp⟩⟩
 by_cases hbe:b=e
 .subst hbe;exact heo
 .exact⟨u,k b u hbe q⟩
end
noncomputable def kc (h:Heap) (H:Hp):List Addr:=(List.range h.objs.size).filter λ a=>(H a).isSome
noncomputable def rA (h:Heap) (H:Hp):Heap:=PySem.W.hideAll h (kc h H)
theorem QN (h:Heap) (H:Hp):(rA h H).objs.size=h.objs.size:=PySem.W.hideAll_size _ _
theorem QO {h:Heap}{H:Hp}{b:Addr}{o:Obj}(e:h.get? b=some o) (n:H b=none):(rA h H).get? b=some o:=
 PySem.W.hideAll_get _ e λ hm=>by
  have q:(H b).isSome=true:=(List.mem_filter.mp hm).2;rw[n] at q;simp at q
theorem RC {h:Heap}{H:Hp}{b:Addr}{o:Obj}(e:(rA h H).get? b=some o):h.get? b=some o/\H b=none:=by
 have e':h.get? b=some o:=PySem.W.of_hideAll (kc h H) e;refine⟨e',?_⟩;cases q:H b with
 | none=>rfl
 | some x=>
  have hm:b∈kc h H:=List.mem_filter.mpr ⟨List.mem_range.mpr (Heap.lt_size e'),by simp[q]⟩;have z:(rA h H).get? b=none:=PySem.W.hideAll_none (kc h H) hm;rw[z] at e;cases e
end L2
namespace L2
open PySem PySem.Spec PyProof.Rows
structure Mod (K:PySem.W.Frag) (mg:Str->Option Value) (base:Heap):Prop where
 fq:K.In base
 glob:base.Ns mainGlobals mg
 blt:∃ mb,base.Ns builtinsNs mb/\∀ x:Str,x≠"__name__"->mb x=bootBuiltins x
 nolimit:base.NoLimit
structure Cx where
 prog:Program
 w:World
 K:PySem.W.Frag
 mg:Str->Option Value
 base:Heap
 A:Around
 N:List Str
 s₀:Shared
 H₀:Hp
 env:Env
 outer:List Env
 stack:List Env
 ex:List Addr
 fn:Str->Bool
 calm:Bool
 pn:List (Addr×Obj)
 xe:Value->Shared->Prop
noncomputable def ux (l:List Env):List Addr:=l.filterMap (·.frame)
abbrev Cx.fs (X:Cx):List Addr:=ux X.outer
def eP (sc:Scope) (x:Str):Prop:=sc.names.lookup x=some .local\/sc.names.lookup x=some .cell\/sc.names.lookup x=some .free
def Loc (sc:Scope) (x:Str):Prop:=sc.names.lookup x=some .local\/sc.names.lookup x=some .cell
def Look (env:Env) (h:Heap) (m:Str->Option Value) (x:Str) (u:Value):Prop:=
 (env.kindOf x=some .local/\m x=some u)\/((env.kindOf x=some .cell\/env.kindOf x=some .free)/\∃ c,env.cells.lookup x=some c/\h.IsCell c (some u))
structure Cx.Ok (X:Cx):Prop where
 mod:Mod X.K X.mg X.base
 kind:X.env.scope.kind=.function
 glob:X.env.globals=mainGlobals
 blt:X.env.builtins=builtinsNs
 above:X.s₀.heap.objs.size<=X.env.locals
 inj:∀ x y c,X.env.cells.lookup x=some c->X.env.cells.lookup y=some c->x=y
 has:∀ x,(X.env.kindOf x=some .cell\/X.env.kindOf x=some .free)->∃ c,X.env.cells.lookup x=some c
 lz:∀ x c,X.fn x=true->X.env.cells.lookup x=some c->X.s₀.heap.objs.size<=c
 hd:X.calm=true->X.A.handled=none
 frames:X.A.frames=some X.stack
 ke:X.stack=X.outer\/(X.stack=X.env::X.outer/\X.env.frame=some X.env.locals)
 fU:∀ b∈X.ex,b≠X.env.locals/\∀ x c,X.env.cells.lookup x=some c->c≠b
 bs:∀ b o,X.base.get? b=some o->X.s₀.heap.get? b=some o/\X.H₀ b=none
 pF:X.base.objs.size<=X.s₀.heap.objs.size
 mD:∀ b o,X.base.get? b=some o->b∉X.ex
 mX:∀ b∈X.ex,b∉X.fs
 tM:X.s₀.heap.FunFrames X.base X.outer
 oP:∀ b∈X.fs,X.H₀ b=none
structure Inv (X:Cx) (pins:List (Addr×Obj)) (σ:List (Option V)) (H:Hp) (s:Shared):Prop where
 ok:X.Ok
 os:s.os=X.s₀.os
 bare:AllBare s.gens
 base:Un X.fs X.ex X.H₀ H X.s₀.heap s.heap
 loc:∃ m,s.heap.Ns X.env.locals m/\∀ (i:Nat) (x:Str) (v:V),X.N[i]?=some x->σ[i]?=some (some v)->eP X.env.scope x->∃ u,RelV v u/\Look X.env s.heap m x u
 cell:∀ x c,X.env.cells.lookup x=some c->∃ v,s.heap.IsCell c v
 free:H X.env.locals=none
 sD:∀ x c,X.env.cells.lookup x=some c->H c=none
 pin:∀ p∈X.pn++pins,s.heap.get? p.1=some p.2/\H p.1=none/\p.1≠X.env.locals/\p.1∉X.fs/\∀ v,p.2.data≠.cell v
 zJ:x8 X.prog X.w H s.heap
 len:σ.length=X.N.length
section
variable {X:Cx}{pins:List (Addr×Obj)}{σ:List (Option V)}{H H':Hp}{s:Shared}{h':Heap}
theorem Cx.Ok.RG (ok:X.Ok) {b:Addr}{o:Obj}(e:X.base.get? b=some o):b∉X.fs:=λ hb=>by
 have:=(ok.tM.mem hb).1;rw[e] at this;cases this
theorem Inv.bs (I:Inv X pins σ H s):∀ b o,X.base.get? b=some o->s.heap.get? b=some o/\H b=none:=λ b o e=>
 ⟨I.base.keep b o (I.ok.bs b o e).1 (I.ok.bs b o e).2 (I.ok.RG e) (I.ok.mD b o e),I.base.free b o (I.ok.bs b o e).1 (I.ok.bs b o e).2 (I.ok.mD b o e)⟩
theorem Inv.bk (I:Inv X pins σ H s):∀ b o,X.base.get? b=some o->s.heap.get? b=some o:=λ b o e=>(I.bs b o e).1
theorem Inv.mod (I:Inv X pins σ H s):Mod X.K X.mg X.base:=I.ok.mod
theorem Inv.uv (I:Inv X pins σ H s):X.K.In s.heap:=I.ok.mod.fq.keeps I.bk
theorem Inv.lt (I:Inv X pins σ H s):X.env.locals<s.heap.objs.size:=let ⟨_,hn,_⟩:=I.loc;hn.lt
theorem Inv.sz (I:Inv X pins σ H s):X.s₀.heap.objs.size<=s.heap.objs.size:=Nat.le_trans I.ok.above (Nat.le_of_lt I.lt)
theorem Inv.aE (I:Inv X pins σ H s) {a:Addr}(h:s.heap.objs.size<=a):a∉X.fs:=λ hb=>by
 obtain⟨_,o,ho,_⟩:=I.ok.tM.mem hb;exact absurd (Nat.lt_of_lt_of_le (Heap.lt_size ho) (Nat.le_trans I.sz h)) (Nat.lt_irrefl _)
theorem Inv.pD (I:Inv X pins σ H s):∀ x c,X.env.cells.lookup x=some c->c≠X.env.locals:=λ x c e z=>by
 obtain⟨v,o,ho,hd⟩:=I.cell x c e;obtain⟨m,⟨o',es,ep,ho',hd',_⟩,_⟩:=I.loc;rw[z,ho'] at ho;cases ho;rw[hd'] at hd;cases hd
theorem Inv.tM (I:Inv X pins σ H s):s.heap.FunFrames X.base X.outer:=by
 have all:∀ (l:List Env),(∀ b∈ux l,b∈X.fs)->X.s₀.heap.FunFrames X.base l->s.heap.FunFrames X.base l:=by
  intro l
  induction l with
  | nil=>intro _ _;trivial
  | cons env r ih=>
   intro hs hl;obtain⟨hk,⟨L,o,hf,hn,ho,hd⟩,hr⟩:=hl;have hL:L∈X.fs:=hs L (by unfold ux;rw[List.filterMap_cons,hf];exact zMc);obtain⟨sl,e⟩:=I.base.slot L o ho (I.ok.oP L hL) hL λ z=>I.ok.mX L z hL;exact⟨hk,⟨L,_,hf,hn,e,hd⟩,ih (λ b hb=>hs b (by unfold ux;rw[List.filterMap_cons,hf];exact zMo _ hb)) hr⟩
 exact all X.outer (λ _ hb=>hb) I.ok.tM
theorem Inv.stack (I:Inv X pins σ H s):s.heap.FunFrames X.base X.stack:=by
 rcases I.ok.ke with e | ⟨e,hf⟩
 .rw[e];exact I.tM
 .rw[e];obtain⟨m,hn,_⟩:=I.loc;refine .cons (by rw[I.ok.kind];decide) hf hn ?_ I.tM;exact Heap.get?_none_of_le (Nat.le_trans I.ok.pF I.ok.above)
theorem Inv.i5 (I:Inv X pins σ H s):∀ b∈ux X.stack,b∈X.env.locals::X.fs:=λ b hb=>by
 rcases I.ok.ke with e | ⟨e,hf⟩
 .rw[e] at hb;exact zMo _ hb
 .rw[e] at hb;unfold ux at hb;rw[List.filterMap_cons,hf] at hb;exact hb
theorem Inv.cG (I:Inv X pins σ H s):∀ b∈ux X.stack,H b=none:=λ b hb=>by
 rcases List.mem_cons.mp (I.i5 b hb) with e | hb
 .rw[e];exact I.free
 .obtain⟨_,o,ho,_⟩:=I.ok.tM.mem hb;exact I.base.free b o ho (I.ok.oP b hb) λ z=>I.ok.mX b z hb
theorem Inv.step {g':Array GenState}{t':Nat}{d':Drawn}{ch:List Addr}(I:Inv X pins σ H s)
  (hch:∀ b∈ch,(b∈X.ex\/X.s₀.heap.objs.size<=b)/\b≠X.env.locals/\(∀ x c,X.env.cells.lookup x=some c->c≠b)/\∀ p∈X.pn++pins,p.1≠b)
  (keep:∀ b o,b≠X.env.locals->b∉X.fs->b∉ch->s.heap.get? b=some o->H b=none->h'.get? b=some o)
  (slot:∀ b o,b≠X.env.locals->b∈X.fs->b∉ch->s.heap.get? b=some o->H b=none->∃ sl,h'.get? b=some { o with slots:=sl }) (free:∀ b o,b∉ch->s.heap.get? b=some o->H b=none->H' b=none)
  (there:∀ b o,b∉ch->s.heap.get? b=some o->∃ o',h'.get? b=some o')
  (tZ:∀ b xs,H b=some (.tup xs)->H' b=some (.tup xs)) (rD:∀ b o u,H b=some (.vd o u)->H' b=some (.vd o u)) (rZ:∀ b ps,H b=some (.qM ps)->∃ more,H' b=some (.qM (ps++more)))
  (ns:∀ m,s.heap.Ns X.env.locals m->h'.Ns X.env.locals m) (zJ:x8 X.prog X.w H' h') (hg:AllBare g'):
  Inv X pins σ H' { s with heap:=h',gens:=g',drawn:=d',toks:=t' }:=by
 have neL:∀ b o,X.s₀.heap.get? b=some o->b≠X.env.locals:=λ b o e=>Nat.ne_of_lt (Nat.lt_of_lt_of_le (Heap.lt_size e) I.ok.above);have neC:∀ b o,X.s₀.heap.get? b=some o->b∉X.ex->b∉ch:=λ b o e hx hb=>by
  rcases (hch b hb).1 with z | z
  .exact hx z
  .exact absurd (Nat.lt_of_lt_of_le (Heap.lt_size e) z) (Nat.lt_irrefl _)
 have cellK:∀ x c,X.env.cells.lookup x=some c->∀ v,s.heap.IsCell c v->h'.IsCell c v:=λ x c e v ⟨o,ho,hd⟩=>by
  have nch:c∉ch:=λ z=>(hch c z).2.2.1 x c e rfl;by_cases hc:c∈X.fs
  .obtain⟨sl,q⟩:=slot c o (I.pD x c e) hc nch ho (I.sD x c e);exact⟨_,q,hd⟩
  .exact⟨o,keep c o (I.pD x c e) hc nch ho (I.sD x c e),hd⟩
 refine⟨I.ok,I.os,hg,⟨λ b o e n hb hx=>?_,λ b o e n hb hx=>?_,λ b o e n hx=>?_,λ b o e hx=>?_,λ b xs e=>tZ b xs (I.base.tZ b xs e),λ b o xs e=>rD b o xs (I.base.rD b o xs e),λ b ps e=>?_⟩,?_,λ x c e=>?_,?_,λ x c e=>?_,λ p hp=>?_,zJ,I.len⟩
 .exact keep b o (neL b o e) hb (neC b o e hx) (I.base.keep b o e n hb hx) (I.base.free b o e n hx)
 .obtain⟨sl,e1⟩:=I.base.slot b o e n hb hx;obtain⟨sl',e2⟩:=slot b _ (neL b o e) hb (neC b o e hx) e1 (I.base.free b o e n hx);exact⟨sl',e2⟩
 .obtain⟨o',e1⟩:=I.base.there b o e hx;exact free b o' (neC b o e hx) e1 (I.base.free b o e n hx)
 .obtain⟨o',e1⟩:=I.base.there b o e hx;exact there b o' (neC b o e hx) e1
 .obtain⟨m1,e1⟩:=I.base.rZ b ps e;obtain⟨m2,e2⟩:=rZ b _ e1;exact⟨m1++m2,by rw[e2,Array.append_assoc]⟩
 .obtain⟨m,hn,hl⟩:=I.loc;refine⟨m,ns m hn,λ i x v e1 e2 e3=>?_⟩;obtain⟨u,r,l⟩:=hl i x v e1 e2 e3;refine⟨u,r,?_⟩;rcases l with l | ⟨k,c,e,z⟩
  .exact .inl l
  .exact .inr ⟨k,c,e,cellK x c e _ z⟩
 .obtain⟨v,z⟩:=I.cell x c e;exact⟨v,cellK x c e v z⟩
 .obtain⟨m,⟨o,_,_,ho,_⟩,_⟩:=I.loc;exact free _ o (λ z=>(hch _ z).2.1 rfl) ho I.free
 .obtain⟨v,o,ho,hd⟩:=I.cell x c e;exact free c o (λ z=>(hch c z).2.2.1 x c e rfl) ho (I.sD x c e)
 .obtain⟨e,n,ne,nf,d⟩:=I.pin p hp;have nch:p.1∉ch:=λ z=>(hch p.1 z).2.2.2 p hp rfl;exact⟨keep p.1 p.2 ne nf nch e n,free p.1 p.2 nch e n,ne,nf,d⟩
theorem Inv.un {t':Nat}(I:Inv X pins σ H s) (u:Un X.fs [] H H' s.heap h') (zJ:x8 X.prog X.w H' h'):Inv X pins σ H' { s with heap:=h',toks:=t' }:=by
 obtain⟨m,⟨o,es,ep,ho,r⟩,_⟩:=id I.loc;obtain⟨sl,hL⟩:=u.any ho I.free (by simp);exact I.step (g':=s.gens) (d':=s.drawn) (ch:=[]) (λ _ z=>nomatch z) (λ b o _ hb _ e n=>u.keep b o e n hb (by simp)) (λ b o _ hb _ e n=>u.slot b o e n hb (by simp)) (λ b o _ e n=>u.free b o e n (by simp)) (λ b o _ e=>u.there b o e (by simp)) u.tZ u.rD u.rZ (λ m' hm=>by
  obtain⟨o',es',ep',ho',r'⟩:=hm;rw[ho] at ho';cases ho';exact⟨_,es',ep',hL,r'⟩) zJ I.bare
theorem Inv.call {g':Array GenState}{t':Nat}{d':Drawn}{ch:List Addr}(I:Inv X pins σ H s) (u:Un (ux X.stack) ch H H' s.heap h') (zJ:x8 X.prog X.w H' h') (hg:AllBare g')
  (hch:∀ b∈ch,(b∈X.ex\/X.s₀.heap.objs.size<=b)/\b≠X.env.locals/\(∀ x c,X.env.cells.lookup x=some c->c≠b)/\∀ p∈X.pn++pins,p.1≠b):
  Inv X pins σ H' { s with heap:=h',gens:=g',drawn:=d',toks:=t' }:=by
 obtain⟨m,⟨o,es,ep,ho,r⟩,_⟩:=id I.loc;obtain⟨sl,hL⟩:=u.any ho I.free λ z=>(hch _ z).2.1 rfl;exact I.step (ch:=ch) hch (λ b o hL hb hc e n=>u.keep b o e n (λ z=>(List.mem_cons.mp (I.i5 b z)).elim hL hb) hc) (λ b o _ _ hc e n=>u.any e n hc) (λ b o hc e n=>u.free b o e n hc) (λ b o hc e=>u.there b o e hc) u.tZ u.rD u.rZ (λ m' hm=>by
  obtain⟨o',es',ep',ho',r'⟩:=hm;rw[ho] at ho';cases ho';exact⟨_,es',ep',hL,r'⟩) zJ hg
theorem Inv.turned {t':Nat}{it:Addr}(I:Inv X pins σ H s) (k:∀ b o,b≠it->s.heap.get? b=some o->h'.get? b=some o) (hn:H it=none) (hL:it≠X.env.locals)
  (h1:it∈X.ex\/X.s₀.heap.objs.size<=it) (h2:∀ x c,X.env.cells.lookup x=some c->c≠it) (h3:∀ p∈X.pn++pins,p.1≠it):Inv X pins σ H { s with heap:=h',toks:=t' }:=by
 have nit:∀ b u,H b=some u->b≠it:=λ b u e z=>by rw[z,hn] at e;cases e
 refine I.step (g':=s.gens) (d':=s.drawn) (ch:=[it]) (λ b hb=>?_) (λ b o _ _ hc e _=>k b o (λ z=>hc (by simp[z])) e) (λ b o _ _ hc e _=>⟨o.slots,k b o (λ z=>hc (by simp[z])) e⟩) (λ _ _ _ _ n=>n)
  (λ b o hc e=>⟨o,k b o (λ z=>hc (by simp[z])) e⟩) (λ _ _ e=>e) (λ _ _ _ e=>e) (λ b ps e=>⟨#[],by rw[e];simp⟩) (λ m hm=>?_) (λ b u e=>?_) I.bare
 .have e:b=it:=by simpa using hb
  subst e;exact⟨h1,hL,h2,h3⟩
 .obtain⟨o,es,ep,ho,r⟩:=hm;exact⟨o,es,ep,k _ o (Ne.symm hL) ho,r⟩
 .refine (I.zJ b u e).ra (λ c v hc q=>k c v ?_ q) (λ _ q=>q) λ _ _ q=>q;rcases hc with z | z
  .rw[z];exact nit b u e
  .exact nit c _ z
theorem Inv.tok (I:Inv X pins σ H s) (t:Nat):Inv X pins σ H { s with toks:=t }:=I.un (h':=s.heap) (t':=t) Un.refl I.zJ
theorem Inv.kept {t':Nat}(I:Inv X pins σ H s) (k:∀ b u,s.heap.get? b=some u->h'.get? b=some u):Inv X pins σ H { s with heap:=h',toks:=t' }:=I.un (Un.kept k) (I.zJ.kept k)
theorem Inv.laid {a:Addr}{o:HO}{t':Nat}(I:Inv X pins σ H s) (k:∀ b u,s.heap.get? b=some u->h'.get? b=some u) (hp:s.heap.objs.size<=a) (new:xM X.prog X.w (upd H a o) h' a o):
  Inv X pins σ (upd H a o) { s with heap:=h',toks:=t' }:=I.un (Un.laid k hp (I.zJ.fresh hp)) (I.zJ.laid k hp new)
theorem Inv.write {x e:Addr}{o:HO}{t':Nat}(I:Inv X pins σ H s) (mu:lG (H x)) (he:e=x\/H e=some (.own x)) (k:∀ b u,b≠e->s.heap.get? b=some u->h'.get? b=some u) (heo:∃ u,h'.get? e=some u)
  (new:xM X.prog X.w (upd H x o) h' x o):Inv X pins σ (upd H x o) { s with heap:=h',toks:=t' }:=I.un (Un.write mu he k heo) (I.zJ.write mu he k heo new)
theorem Inv.gC {pins':List (Addr×Obj)}(I:Inv X pins σ H s) (h:∀ p∈pins',s.heap.get? p.1=some p.2/\H p.1=none/\p.1≠X.env.locals/\p.1∉X.fs/\∀ v,p.2.data≠.cell v):Inv X pins' σ H s:=
 ⟨I.ok,I.os,I.bare,I.base,I.loc,I.cell,I.free,I.sD,λ p hp=>(List.mem_append.mp hp).elim (λ z=>I.pin p (List.mem_append_left _ z)) (h p),I.zJ,I.len⟩
theorem aG {N:List Str}(hN:N.Nodup) {i j:Nat}{x:Str}(a:N[i]?=some x) (b:N[j]?=some x):i=j:=by
 obtain⟨h1,e1⟩:=List.getElem?_eq_some_iff.mp a;obtain⟨h2,e2⟩:=List.getElem?_eq_some_iff.mp b;exact (List.getElem_inj hN).mp (e1.trans e2.symm)
theorem Vo {M:Model}{A:Around}{E:Value->Shared->Prop}{i:Nat}{x:Str}{v:V}{u:Value}{Q:Unit->Shared->Prop}(I:Inv X pins σ H s) (hN:X.N.Nodup) (hi:X.N[i]?=some x) (hx:Loc X.env.scope x) (r:RelV v u)
  (h:∀ s',Inv X pins (σ.set i (some v)) H s'->(∃ a,Heap.SameBut a s.heap s'.heap/\(a=X.env.locals\/X.env.cells.lookup x=some a))->Q () s') (hf:X.fn x=true\/X.env.scope.names.lookup x=some .local:=by first | exact .inl rfl | exact .inr rfl | assumption):wpAny M A (storeName X.env x u) Q E s:=by
 obtain⟨m,hn,hl⟩:=id I.loc;have hcls:(X.env.scope.kind == .class||(X.env.scope.kind == .module&&X.env.locals != X.env.globals))=false:=by rw[I.ok.kind];rfl
 have hiσ:i < σ.length:=by rw[I.len];exact (List.getElem?_eq_some_iff.mp hi).1
 have pD:=I.pD;have tracked:∀ {a:Addr}{h':Heap},(∃ o,s.heap.get? a=some o/\H a=none)->Heap.SameBut a s.heap h'->x8 X.prog X.w H h':=λ{a h'} ha hs b ob e=>by
  obtain⟨_,_,hfree⟩:=ha;refine (I.zJ b ob e).ra (λ c w' hc q=>(hs.2 c ?_).trans q) (λ _ q=>q) λ _ _ q=>q;rintro rfl;rcases hc with rfl | hc
  .rw[hfree] at e;cases e
  .rw[hfree] at hc;cases hc
 rcases hx with hk | hk
 .refine wpAny_storeName_local hk hn (λ h' hn' hs=>?_) hcls;obtain⟨oL,_,_,hoL,_⟩:=id hn;refine h _ ⟨I.ok,I.os,I.bare,⟨λ b o e n hb hx=>?_,λ b o e n hb hx=>?_,I.base.free,λ b o e hx=>?_,I.base.tZ,I.base.rD,I.base.rZ⟩,⟨_,hn',λ j y v' e1 e2 e3=>?_⟩,λ y c e=>?_,I.free,I.sD,λ p hp=>?_,tracked ⟨oL,hoL,I.free⟩ hs,by simpa using I.len⟩ ⟨_,hs,.inl rfl⟩
  .exact (hs.2 b (Nat.ne_of_lt (Nat.lt_of_lt_of_le (Heap.lt_size e) I.ok.above))).trans (I.base.keep b o e n hb hx)
  .obtain⟨sl,e1⟩:=I.base.slot b o e n hb hx;exact⟨sl,(hs.2 b (Nat.ne_of_lt (Nat.lt_of_lt_of_le (Heap.lt_size e) I.ok.above))).trans e1⟩
  .obtain⟨o',e1⟩:=I.base.there b o e hx;exact⟨o',(hs.2 b (Nat.ne_of_lt (Nat.lt_of_lt_of_le (Heap.lt_size e) I.ok.above))).trans e1⟩
  .by_cases hj:j=i
   .subst hj;rw[hi] at e1;cases e1;rw[List.getElem?_set_self hiσ] at e2;cases e2;exact⟨u,r,.inl ⟨hk,by simp⟩⟩
   .rw[List.getElem?_set_ne (Ne.symm hj)] at e2;obtain⟨u',r',q⟩:=hl j y v' e1 e2 e3;refine⟨u',r',?_⟩;rcases q with ⟨k,e⟩ | ⟨k,c,e,z⟩
    .refine .inl ⟨k,?_⟩;have:y≠x:=λ e=>hj (aG hN e1 (e▸hi));simp[this,e]
    .exact .inr ⟨k,c,e,z.sameBut hs (pD y c e)⟩
  .obtain⟨w',z⟩:=I.cell y c e;exact⟨w',z.sameBut hs (pD y c e)⟩
  .obtain⟨e,n,ne,nf,d⟩:=I.pin p hp;exact⟨(hs.2 p.1 ne).trans e,n,ne,nf,d⟩
 .have hfn:X.fn x=true:=by
   rcases hf with z | z
   .exact z
   .rw[z] at hk;cases hk
  obtain⟨c,hc⟩:=I.ok.has x (.inl hk);obtain⟨w',z⟩:=I.cell x c hc;refine wpAny_storeName_cell I.ok.kind hk hc z (λ h' hc' hs=>?_);obtain⟨oc,hoc,hocd⟩:=id z;refine h { s with heap:=h' } ⟨I.ok,I.os,I.bare,⟨λ b o e n hb hx=>?_,λ b o e n hb hx=>?_,I.base.free,λ b o e hx=>?_,I.base.tZ,I.base.rD,I.base.rZ⟩,⟨m,hn.sameBut hs (Ne.symm (pD x c hc)),λ j y v' e1 e2 e3=>?_⟩,λ y c' e=>?_,I.free,I.sD,λ p hp=>?_,tracked ⟨oc,hoc,I.sD x c hc⟩ hs,by simpa using I.len⟩ ⟨c,hs,.inr hc⟩
  .exact (hs.2 b (Nat.ne_of_lt (Nat.lt_of_lt_of_le (Heap.lt_size e) (I.ok.lz x c hfn hc)))).trans (I.base.keep b o e n hb hx)
  .obtain⟨sl,e1⟩:=I.base.slot b o e n hb hx;exact⟨sl,(hs.2 b (Nat.ne_of_lt (Nat.lt_of_lt_of_le (Heap.lt_size e) (I.ok.lz x c hfn hc)))).trans e1⟩
  .obtain⟨o',e1⟩:=I.base.there b o e hx;exact⟨o',(hs.2 b (Nat.ne_of_lt (Nat.lt_of_lt_of_le (Heap.lt_size e) (I.ok.lz x c hfn hc)))).trans e1⟩
  .by_cases hj:j=i
   .subst hj;rw[hi] at e1;cases e1;rw[List.getElem?_set_self hiσ] at e2;cases e2;exact⟨u,r,.inr ⟨.inl hk,c,hc,hc'⟩⟩
   .rw[List.getElem?_set_ne (Ne.symm hj)] at e2;obtain⟨u',r',q⟩:=hl j y v' e1 e2 e3;refine⟨u',r',?_⟩;rcases q with q | ⟨k,c',e,z'⟩
    .exact .inl q
    .refine .inr ⟨k,c',e,z'.sameBut hs ?_⟩;rintro rfl;exact hj (aG hN e1 (I.ok.inj _ _ _ e hc▸hi))
  .by_cases hcc:c'=c
   .subst hcc;exact⟨_,hc'⟩
   .obtain⟨w2,z2⟩:=I.cell y c' e;exact⟨w2,z2.sameBut hs hcc⟩
  .obtain⟨e,n,ne,nf,d⟩:=I.pin p hp;refine⟨(hs.2 p.1 ?_).trans e,n,ne,nf,d⟩;intro q;rw[q,hoc] at e;have q':oc=p.2:=Option.some.inj e;exact d w' (by rw[<- q'];exact hocd)
theorem i4 {M:Model}{A:Around}{E:Value->Shared->Prop}{i:Nat}{x:Str}{v:V}{u:Value}{Q:Unit->Shared->Prop}(I:Inv X pins σ H s) (hN:X.N.Nodup) (hi:X.N[i]?=some x) (hx:Loc X.env.scope x) (r:RelV v u)
  (h:∀ s',Inv X pins (σ.set i (some v)) H s'->Q () s') (hf:X.fn x=true\/X.env.scope.names.lookup x=some .local:=by first | exact .inl rfl | exact .inr rfl | assumption):wpAny M A (storeName X.env x u) Q E s:=
 Vo I hN hi hx r (λ s' I' _=>h s' I') hf
theorem Inv.OV {s':Shared}{ch:List Addr}(I:Inv X pins σ H s) (ho:s'.os=s.os) (u:Un (ux X.stack) ch H H' s.heap s'.heap) (zJ:x8 X.prog X.w H' s'.heap) (hg:AllBare s'.gens)
  (hch:∀ b∈ch,(b∈X.ex\/X.s₀.heap.objs.size<=b)/\b≠X.env.locals/\(∀ x c,X.env.cells.lookup x=some c->c≠b)/\∀ p∈X.pn++pins,p.1≠b):Inv X pins σ H' s':=by
 obtain⟨h',g',d',t',o'⟩:=s';have e:o'=s.os:=ho;subst e;exact I.call (g':=g') (t':=t') (d':=d') u zJ hg hch
end
abbrev XK:=Value->Option Addr->Hp->Prop
abbrev St:=List (Option V)
abbrev VK:=V->Hp->Prop
abbrev TE:=St->Hp->VK->Prop
abbrev TT:=St->Hp->(Bool->Hp->Prop)->Prop
abbrev TA:=St->Hp->(List V->Hp->Prop)->Prop
structure Ends where
 nx:St->Hp->Prop
 rt:VK
 bk:St->Hp->Prop:=λ _ _=>False
 ct:St->Hp->Prop:=λ _ _=>False
abbrev TS:=Ends->St->Hp->Prop
def EP (X:Cx) (pins:List (Addr×Obj)) (σ:St) (Q:VK) (u:Value) (s':Shared):Prop:=∃ v H',Inv X pins σ H' s'/\RelV v u/\Q v H'
def TP (X:Cx) (pins:List (Addr×Obj)) (σ:St) (Q:Bool->Hp->Prop) (b:Bool) (s':Shared):Prop:=∃ H',Inv X pins σ H' s'/\Q b H'
def AP (X:Cx) (pins:List (Addr×Obj)) (σ:St) (Q:List V->Hp->Prop) (us:List Value) (s':Shared):Prop:=∃ vs H',Inv X pins σ H' s'/\Vals vs us/\Q vs H'
def SP (X:Cx) (pins:List (Addr×Obj)) (D:Ends) (f:Flow) (s':Shared):Prop:=
 match f with
 | .next=>∃ σ' H',Inv X pins σ' H' s'/\D.nx σ' H'
 | .brk=>∃ σ' H',Inv X pins σ' H' s'/\D.bk σ' H'
 | .cont=>∃ σ' H',Inv X pins σ' H' s'/\D.ct σ' H'
 | .ret u=>∃ v σ' H',Inv X pins σ' H' s'/\RelV v u/\D.rt v H'
def PE (X:Cx) (e:Expr) (t:TE):Prop:=
 ∀ (pins:List (Addr×Obj)) (s:Shared) (σ:St) (H:Hp) (Q:VK),Inv X pins σ H s->t σ H Q->wpAny (model X.prog X.w) X.A (eval e X.env) (EP X pins σ Q) X.xe s
def PT (X:Cx) (e:Expr) (t:TT):Prop:=
 ∀ (pins:List (Addr×Obj)) (s:Shared) (σ:St) (H:Hp) (Q:Bool->Hp->Prop),Inv X pins σ H s->t σ H Q->wpAny (model X.prog X.w) X.A (isTrue e X.env (eval e X.env)) (TP X pins σ Q) X.xe s
def PW (X:Cx) (e:Expr) (t:TT):Prop:=
 ∀ (whole:Sem Value) (pins:List (Addr×Obj)) (s:Shared) (σ:St) (H:Hp) (Q:Bool->Hp->Prop),Inv X pins σ H s->t σ H Q->wpAny (model X.prog X.w) X.A (isTrue e X.env whole) (TP X pins σ Q) X.xe s
theorem PW.pt {X:Cx}{e:Expr}{t:TT}(h:PW X e t):PT X e t:=h _
def PA (X:Cx) (es:List Expr) (t:TA):Prop:=
 ∀ (pos:Pos) (pins:List (Addr×Obj)) (s:Shared) (σ:St) (H:Hp) (Q:List V->Hp->Prop),Inv X pins σ H s->t σ H Q->wpAny (model X.prog X.w) X.A (spliced (backTo pos (starEach es X.env))) (AP X pins σ Q) X.xe s
def PS (X:Cx) (st:Stmt) (t:TS):Prop:=
 ∀ (pins:List (Addr×Obj)) (s:Shared) (σ:St) (H:Hp) (D:Ends),Inv X pins σ H s->t D σ H->wpAny (model X.prog X.w) X.A (exec st X.env) (SP X pins D) X.xe s
def wR (X:Cx) (st:List Stmt) (t:TS):Prop:=
 ∀ (pins:List (Addr×Obj)) (s:Shared) (σ:St) (H:Hp) (D:Ends),Inv X pins σ H s->t D σ H->wpAny (model X.prog X.w) X.A (execs st X.env) (SP X pins D) X.xe s
theorem zQ {α:Type}{t:Sem α}{Q Q':α->Shared->Prop}{M:Model}{A:Around}{E:Value->Shared->Prop}{s:Shared}(h:wpAny M A t Q E s) (hQ:∀ a s,Q a s->Q' a s):wpAny M A t Q' E s:=wpAny_mono h hQ λ _ _ x=>x
end L2
namespace L2
open PySem PySem.Spec PyProof.Rows
section
variable {X:Cx}
def iw (i:Nat):TE:=fun σ H Q=>∃ v,σ[i]?=some (some v)/\Q v H
def tC (v:V):TE:=λ _ H Q=>Q v H
theorem UP {i:Nat}{x:Str}{pos:Pos}(hN:X.N[i]?=some x) (hv:eP X.env.scope x) (hd:(x == ("__debug__":Str))=false:=by decide) (hcd:(x == ("__classdict__":Str))=false:=by decide):PE X (.Name x pos) (iw i):=by
 intro pins s σ H Q I h;obtain⟨v,e,h⟩:=h;obtain⟨m,hn,hl⟩:=I.loc;obtain⟨u,r,l⟩:=hl i x v hN e hv;have fin:EP X pins σ Q u s:=⟨v,H,I,r,h⟩
 rcases l with ⟨hk,hm⟩ | ⟨hk,c,hc,hcell⟩
 .exact wpAny_Name (wpAny_loadName_local I.ok.kind hk hn hm fin) hd
 .rcases hk with hk | hk
  .exact wpAny_Name (wpAny_loadName_cell I.ok.kind hk hc hcell fin) hd
  .exact wpAny_Name (wpAny_loadName_free I.ok.kind hk hc hcell fin hcd) hd
theorem Tb {i j pos}:PE X (.Constant (.int i) j pos) (tC (.int i)):=λ _ _ _ H _ I h=>wpAny_Constant_int ⟨.int i,H,I.tok _,⟨_,rfl⟩,h⟩
theorem Tp {b j pos}:PE X (.Constant (.bool b) j pos) (tC (.bl b)):=λ _ _ _ H _ I h=>Constant_bool ⟨.bl b,H,I,rfl,h⟩
theorem UY {j pos}:PE X (.Constant .none j pos) (tC .zl):=λ _ _ _ H _ I h=>Constant_none ⟨.zl,H,I,rfl,h⟩
theorem US {x j pos}:PE X (.Constant (.str x) j pos) (tC (.str x)):=λ _ _ _ H _ I h=>Calls.Constant_str ⟨.str x,H,I.tok _,⟨_,rfl⟩,h⟩
def Gl (X:Cx) (x:Str):Prop:=X.env.kindOf x=some .globalImplicit
theorem Za {E:Value->Shared->Prop}{pins:List (Addr×Obj)}{s:Shared}{σ:St}{H:Hp}{x:Str}{u:Value}{pos:Pos}{Q:Value->Shared->Prop}(I:Inv X pins σ H s) (hg:Gl X x) (hm:X.mg x=some u) (h:Q u s)
  (hd:(x == ("__debug__":Str))=false:=by decide):wpAny (model X.prog X.w) X.A (eval (.Name x pos) X.env) Q E s:=
 Calls.Name_function_global I.ok.kind hg (Calls.loadGlobal_global (by rw[I.ok.glob];exact I.mod.glob.keeps I.bk) hm h) hd
theorem mK {E:Value->Shared->Prop}{pins:List (Addr×Obj)}{s:Shared}{σ:St}{H:Hp}{x:Str}{u:Value}{pos:Pos}{Q:Value->Shared->Prop}(I:Inv X pins σ H s) (hg:Gl X x) (hm:X.mg x=none) (hv:bootBuiltins x=some u) (h:Q u s)
  (hn:x≠"__name__":=by decide) (hd:(x == ("__debug__":Str))=false:=by decide):wpAny (model X.prog X.w) X.A (eval (.Name x pos) X.env) Q E s:=by
 obtain⟨mb,h1,h2⟩:=I.mod.blt;exact Calls.Name_function_global I.ok.kind hg (Calls.loadGlobal_builtin (by rw[I.ok.glob];exact I.mod.glob.keeps I.bk) hm (by rw[I.ok.blt];exact h1.keeps I.bk) ((h2 x hn).trans hv) h) hd
theorem Td {x:Str}{v:V}{u:Value}{pos:Pos}(hg:Gl X x) (hm:X.mg x=some u) (r:RelV v u) (hd:(x == ("__debug__":Str))=false:=by decide):PE X (.Name x pos) (tC v):=
 λ _ _ _ H _ I h=>Za I hg hm ⟨v,H,I,r,h⟩ hd
theorem Tn {x:Str}{v:V}{u:Value}{pos:Pos}(hg:Gl X x) (hm:X.mg x=none) (hv:bootBuiltins x=some u) (r:RelV v u) (hn:x≠"__name__":=by decide) (hd:(x == ("__debug__":Str))=false:=by decide):PE X (.Name x pos) (tC v):=
 λ _ _ _ H _ I h=>mK I hg hm hv ⟨v,H,I,r,h⟩ hn hd
variable {a b:Expr}{ta tb:TE}{pos:Pos}
variable {tA tB':TT}{rest:List Expr}
def Vm (t u:TT):TT:=fun σ H Q=>t σ H λ c H1=>if c=true then u σ H1 Q else Q false H1
def WZ (t u:TT):TT:=fun σ H Q=>t σ H λ c H1=>if c=true then Q true H1 else u σ H1 Q
def Va (t:TT):TT:=fun σ H Q=>t σ H λ c H1=>Q (!c) H1
theorem Uk (ha:PT X a tA):PW X (.BoolOp .And [a] pos) tA:=by
 intro wh pins s σ H Q I h;refine isTrue_and (zQ (ha pins s σ H Q I h) λ c s1 e=>?_);cases c with
 | true=>exact isTrue_and_nil e
 | false=>exact e
theorem Ui (ha:PT X a tA):PW X (.BoolOp .Or [a] pos) tA:=by
 intro wh pins s σ H Q I h;refine isTrue_or (zQ (ha pins s σ H Q I h) λ c s1 e=>?_);cases c with
 | false=>exact isTrue_or_nil e
 | true=>exact e
theorem Ul (ha:PT X a tA) (hb:PW X (.BoolOp .And (b::rest) pos) tB'):PW X (.BoolOp .And (a::b::rest) pos) (Vm tA tB'):=by
 intro wh pins s σ H Q I h;refine isTrue_and (zQ (ha pins s σ H _ I h) λ c s1 ⟨H1,I1,q1⟩=>?_);cases c with
 | true=>exact hb wh pins s1 σ H1 Q I1 q1
 | false=>exact⟨H1,I1,q1⟩
theorem Uj (ha:PT X a tA) (hb:PW X (.BoolOp .Or (b::rest) pos) tB'):PW X (.BoolOp .Or (a::b::rest) pos) (WZ tA tB'):=by
 intro wh pins s σ H Q I h;refine isTrue_or (zQ (ha pins s σ H _ I h) λ c s1 ⟨H1,I1,q1⟩=>?_);cases c with
 | true=>exact⟨H1,I1,q1⟩
 | false=>exact hb wh pins s1 σ H1 Q I1 q1
theorem Ur (ha:PT X a tA):PT X (.UnaryOp .Not a pos) (Va tA):=by
 intro pins s σ H Q I h;exact isTrue_not (ha pins s σ H (λ c H1=>Q (!c) H1) I h)
def Vl (ta tb:TE):TE:=fun σ H Q=>ta σ H λ x H1=>∃ c,x=.bl c/\if c=true then tb σ H1 Q else Q (.bl false) H1
def W_ (ta:TE):TE:=fun σ H Q=>ta σ H λ x H1=>∃ c,x=.bl c/\Q (.bl (!c)) H1
theorem UW {op} {t:TE}(h:PE X a t):PE X (.BoolOp op [a] pos) t:=λ pins s σ H Q I hw=>BoolOp_one (h pins s σ H Q I hw)
theorem Tq (ha:PE X a ta) (hb:PE X (.BoolOp .And (b::rest) pos) tb):PE X (.BoolOp .And (a::b::rest) pos) (Vl ta tb):=by
 intro pins s σ H Q I h;refine BoolOp_and (zQ (ha pins s σ H _ I h) λ v s1 ⟨x,H1,I1,r1,q1⟩=>?_);obtain⟨c,rfl,q1⟩:=q1;cases r1;refine wpAny_truthy_bool ?_;cases c with
 | true=>exact hb pins s1 σ H1 Q I1 q1
 | false=>exact⟨.bl false,H1,I1,rfl,q1⟩
theorem UX (ha:PE X a ta):PE X (.UnaryOp .Not a pos) (W_ ta):=by
 intro pins s σ H Q I h;refine UnaryOp_ (zQ (ha pins s σ H _ I h) λ v s1 ⟨x,H1,I1,r1,q1⟩=>?_);obtain⟨c,rfl,q1⟩:=q1;cases r1;exact not_of (wpAny_truthy_bool ⟨.bl (!c),H1,I1,rfl,q1⟩)
def Vf (t:TT) (ta tb:TE):TE:=fun σ H Q=>t σ H λ c H1=>if c=true then ta σ H1 Q else tb σ H1 Q
theorem Tc {c:Expr}(hc:PT X c tA) (ha:PE X a ta) (hb:PE X b tb):PE X (.IfExp c a b pos) (Vf tA ta tb):=by
 intro pins s σ H Q I h;refine wpAny_IfExp (zQ (hc pins s σ H _ I h) λ d s1 ⟨H1,I1,q1⟩=>?_);cases d with
 | true=>exact ha pins s1 σ H1 Q I1 q1
 | false=>exact hb pins s1 σ H1 Q I1 q1
end
end L2
namespace L2
open PySem PySem.Spec PyProof.Rows
def yf (K:PySem.W.Frag) (H:Hp) (a:Addr) (xs:List V):Prop:=
 Rd H a (.lst xs)\/
  ∃ (o:Obj) (its:Array Value) (n:Nat),K.lookup a=some o/\o.cls=.type "list"/\o.dict=none/\o.data=.seq its n/\its.size<=sizeLine/\Vals xs its.toList
def ym (K:PySem.W.Frag) (H:Hp) (a:Addr) (xs:List V):Prop:=
 Rd H a (.tup xs)\/
  ∃ (o:Obj) (its:Array Value) (n:Nat),K.lookup a=some o/\o.cls=.type "tuple"/\o.data=.seq its n/\its.size<=sizeLine/\Vals xs its.toList
noncomputable def Np:Value->Option V
 | .none=>some .zl
 | .bool b=>some (.bl b)
 | .int i _=>some (.int i)
 | .str x _=>some (.str x)
 | .bytes b _=>some (.oW b)
 | .float b _=>some (.jj b)
 | .ref a=>some (.ref a)
 | .type n=>some (.ty n)
 | _=>none
theorem RelV.abs {x:V}{u:Value}(r:RelV x u):Np u=some x:=by
 cases x with
 | zl=>cases r;rfl
 | bl _=>cases r;rfl
 | int _=>obtain⟨t,rfl⟩:=r;rfl
 | str _=>obtain⟨t,rfl⟩:=r;rfl
 | oW _=>obtain⟨t,rfl⟩:=r;rfl
 | jj _=>obtain⟨t,rfl⟩:=r;rfl
 | ref _=>cases r;rfl
 | ty _=>cases r;rfl
theorem RelV.inj {x y:V}{u:Value}(r:RelV x u) (q:RelV y u):x=y:=Option.some.inj (r.abs.symm.trans q.abs)
theorem Vals.inj:∀ {xs ys:List V}{us:List Value},Vals xs us->Vals ys us->xs=ys
 | _,_,_,.nil,.nil=>rfl
 | _,_,_,.cons r t,.cons r' t'=>by rw[r.inj r',Vals.inj t t']
section
variable {X:Cx}{pins:List (Addr×Obj)}{σ:St}{H:Hp}{s:Shared}{a:Addr}{xs ys:List V}
theorem yf.of {K:PySem.W.Frag}(h:H a=some (.lst xs)):yf K H a xs:=.inl (.inl h)
theorem ym.of {K:PySem.W.Frag}(h:H a=some (.tup xs)):ym K H a xs:=.inl (.inl h)
theorem Inv.list (I:Inv X pins σ H s) (h:yf X.K H a xs):∃ its:List Value,Vals xs its/\PlainL s.heap a its.toArray/\xs.length<=sizeLine:=by
 rcases h with h | ⟨o,its,n,hk,hc,hd,hs,hz,r⟩
 .obtain⟨z,its,n,r,e⟩:=h.ok I.zJ;exact⟨its,r,⟨_,n,e,rfl,rfl,rfl⟩,z⟩
 .refine⟨its.toList,r,⟨o,n,I.uv a o hk,hc,hd,by simpa using hs⟩,?_⟩;have e:=r.length;simp only[Array.length_toList] at e;omega
theorem Inv.tuple (I:Inv X pins σ H s) (h:ym X.K H a xs):∃ its:List Value,Vals xs its/\IsTup s.heap a its.toArray/\xs.length<=sizeLine:=by
 rcases h with h | ⟨o,its,n,hk,hc,hs,hz,r⟩
 .obtain⟨z,its,r,p⟩:=h.ok I.zJ;exact⟨its,r,p,z⟩
 .refine⟨its.toList,r,⟨o,I.uv a o hk,hc,n,by simpa using hs⟩,?_⟩;have e:=r.length;simp only[Array.length_toList] at e;omega
theorem Inv.fh (I:Inv X pins σ H s) (h:yf X.K H a xs) (h':yf X.K H a ys):xs=ys:=by
 obtain⟨its,r,⟨o,n,e,_,_,d⟩,_⟩:=I.list h;obtain⟨its',r',⟨o',n',e',_,_,d'⟩,_⟩:=I.list h';rw[e] at e';cases e';rw[d] at d'
 injection d' with d1 _
 have:its=its':=by simpa using congrArg Array.toList d1
 subst this;exact r.inj r'
theorem Inv.ir (I:Inv X pins σ H s) (h:ym X.K H a xs) (h':ym X.K H a ys):xs=ys:=by
 obtain⟨its,r,⟨o,e,_,n,d⟩,_⟩:=I.tuple h;obtain⟨its',r',⟨o',e',_,n',d'⟩,_⟩:=I.tuple h';rw[e] at e';cases e';rw[d] at d'
 injection d' with d1 _
 have:its=its':=by simpa using congrArg Array.toList d1
 subst this;exact r.inj r'
end
abbrev Cx.tY (X:Cx) (E:Value->Shared->Prop):Cx:={ X with xe:=E }
abbrev Cx.qj (X:Cx):Cx:=X.tY λ _ _=>False
theorem Cx.Ok.tY {X:Cx}(ok:X.Ok) (E:Value->Shared->Prop):(X.tY E).Ok:=
 ⟨ok.mod,ok.kind,ok.glob,ok.blt,ok.above,ok.inj,ok.has,ok.lz,ok.hd,ok.frames,ok.ke,ok.fU,ok.bs,ok.pF,ok.mD,ok.mX,ok.tM,ok.oP⟩
theorem Cx.Ok.rW {X:Cx}{E:Value->Shared->Prop}(ok:(X.tY E).Ok):X.Ok:=
 ⟨ok.mod,ok.kind,ok.glob,ok.blt,ok.above,ok.inj,ok.has,ok.lz,ok.hd,ok.frames,ok.ke,ok.fU,ok.bs,ok.pF,ok.mD,ok.mX,ok.tM,ok.oP⟩
section
variable {X:Cx}{pins:List (Addr×Obj)}{σ:St}{H:Hp}{s:Shared}{E:Value->Shared->Prop}
theorem Inv.tY (I:Inv X pins σ H s) (E:Value->Shared->Prop):Inv (X.tY E) pins σ H s:=⟨I.ok.tY E,I.os,I.bare,I.base,I.loc,I.cell,I.free,I.sD,I.pin,I.zJ,I.len⟩
theorem Inv.rW (I:Inv (X.tY E) pins σ H s):Inv X pins σ H s:=⟨I.ok.rW,I.os,I.bare,I.base,I.loc,I.cell,I.free,I.sD,I.pin,I.zJ,I.len⟩
theorem SP.rW {D:Ends}{f:Flow}{s':Shared}(h:SP (X.tY E) pins D f s'):SP X pins D f s':=by
 cases f with
 | next=>obtain⟨σ',H',I,q⟩:=h;exact⟨σ',H',I.rW,q⟩
 | brk=>obtain⟨σ',H',I,q⟩:=h;exact⟨σ',H',I.rW,q⟩
 | cont=>obtain⟨σ',H',I,q⟩:=h;exact⟨σ',H',I.rW,q⟩
 | ret u=>obtain⟨v,σ',H',I,r,q⟩:=h;exact⟨v,σ',H',I.rW,r,q⟩
theorem wR.qj {st:List Stmt}{t:TS}(h:wR X.qj st t):wR X st t:=λ pins s σ H D I hw=>
 wpAny_mono (h pins s σ H D (I.tY _) hw) (λ _ _ q=>q.rW) λ _ _ z=>False.elim z
end
section
variable {X:Cx}{st:Stmt}{rest:List Stmt}{t u:TS}{e:Expr}{te:TE}{pos:Pos}
def Vc:TS:=λ D σ H=>D.nx σ H
def WV (t u:TS):TS:=λ D σ H=>t { D with nx:=u D } σ H
theorem Uu:wR X [] Vc:=λ _ _ σ H _ I h=>wpAny_execs_nil ⟨σ,H,I,h⟩
theorem Uv (h1:PS X st t) (h2:wR X rest u):wR X (st::rest) (WV t u):=by
 intro pins s σ H D I h;refine wpAny_execs_cons (zQ (h1 pins s σ H { D with nx:=u D } I h) λ f s1 q=>?_);cases f with
 | next=>
  obtain⟨σ',H',I',q⟩:=q;exact h2 pins s1 σ' H' D I' q
 | ret v=>exact q
 | brk=>exact q
 | cont=>exact q
theorem Ut (h1:PS X st t):wR X [st] t:=by
 intro pins s σ H D I h;refine wpAny_execs_cons (zQ (h1 pins s σ H D I h) λ f s1 q=>?_);cases f with
 | next=>exact wpAny_execs_nil q
 | ret v=>exact q
 | brk=>exact q
 | cont=>exact q
theorem Inv.quiet {pins:List (Addr×Obj)}{σ:St}{H:Hp}{s:Shared}(I:Inv X pins σ H s):interactive X.env=false:=by simp[interactive,I.ok.kind]
def Vh (te:TE):TS:=λ D σ H=>te σ H λ _ H1=>D.nx σ H1
theorem U3 (he:PE X e te) (hs:swapsWith e none pos.line X.env=pure false:=by rfl):PS X (.Expr e pos) (Vh te):=by
 intro pins s σ H D I h;exact wpAny_Expr_any (zQ (he pins s σ H _ I h) λ v s1 ⟨x,H1,I1,r1,q1⟩=>⟨σ,H1,I1,q1⟩) I.quiet hs
def WX (te:TE):TS:=λ D σ H=>te σ H D.rt
theorem Uz (he:PE X e te):PS X (.Return (some e) pos) (WX te):=by
 intro pins s σ H D I h;exact wpAny_Return_some (zQ (he pins s σ H _ I h) λ v s1 ⟨x,H1,I1,r1,q1⟩=>⟨x,σ,H1,I1,r1,q1⟩)
def Ve (c:TT) (t u:TS):TS:=λ D σ H=>c σ H λ b H1=>if b=true then t D σ H1 else u D σ H1
theorem U0 {c:Expr}{a b:List Stmt}{tc:TT}(hc:PT X c tc) (ha:wR X a t) (hb:wR X b u):PS X (.If c a b pos) (Ve tc t u):=by
 intro pins s σ H D I h;refine wpAny_If (zQ (hc pins s σ H _ I h) λ d s1 ⟨H1,I1,q1⟩=>?_);cases d with
 | true=>exact ha pins s1 σ H1 D I1 q1
 | false=>exact hb pins s1 σ H1 D I1 q1
end
abbrev TG:=V->St->Hp->(St->Hp->Prop)->Prop
abbrev rJ:=List V->St->Hp->(St->Hp->Prop)->Prop
def PG (X:Cx) (target:Expr) (t:TG):Prop:=
 ∀ (pins:List (Addr×Obj)) (s:Shared) (σ:St) (H:Hp) (v:V) (u:Value) (Q:St->Hp->Prop),Inv X pins σ H s->RelV v u->t v σ H Q->
  wpAny (model X.prog X.w) X.A (assign target X.env u) (λ _ s'=>∃ σ' H',Inv X pins σ' H' s'/\Q σ' H') X.xe s
def sS (X:Cx) (ts:List Expr) (t:rJ):Prop:=
 ∀ (pins:List (Addr×Obj)) (s:Shared) (σ:St) (H:Hp) (vs:List V) (us:List Value) (Q:St->Hp->Prop),Inv X pins σ H s->Vals vs us->t vs σ H Q->
  wpAny (model X.prog X.w) X.A (assignInOrder ((assignEach ts X.env).map (·.2)) us) (λ _ s'=>∃ σ' H',Inv X pins σ' H' s'/\Q σ' H') X.xe s
abbrev eS:=V->V->V->Hp->(Hp->Prop)->Prop
def YX (X:Cx) (t:eS):Prop:=
 ∀ (pins:List (Addr×Obj)) (s:Shared) (σ:St) (H:Hp) (o i v:V) (ov iv u:Value) (Q:Hp->Prop),Inv X pins σ H s->RelV o ov->RelV i iv->RelV v u->t o i v H Q->
  wpAny (model X.prog X.w) X.A (setItem ov iv u) (λ _ s'=>∃ H',Inv X pins σ H' s'/\Q H') X.xe s
section
variable {X:Cx}{pos:Pos}
noncomputable def oO (i:Nat):TG:=λ v σ H Q=>Q (σ.set i (some v)) H
theorem UL {i:Nat}{x:Str}(hN:X.N.Nodup) (hi:X.N[i]?=some x) (hx:Loc X.env.scope x) (hf:X.fn x=true\/X.env.scope.names.lookup x=some .local:=by first | exact .inl rfl | exact .inr rfl | assumption):PG X (.Name x pos) (oO i):=by
 intro pins s σ H v u Q I r h;exact wpAny_assign_Name (i4 I hN hi hx r (λ s' I'=>⟨_,H,I',h⟩) hf)
noncomputable def QZ:rJ:=λ vs σ H Q=>vs=[]/\Q σ H
noncomputable def Q_ (t:TG) (u:rJ):rJ:=λ vs σ H Q=>∃ v r,vs=v::r/\t v σ H fun σ' H'=>u r σ' H' Q
theorem UH:sS X [] QZ:=by
 intro pins s σ H vs us Q I r h;obtain⟨e,h⟩:=h;subst e;cases r;exact assignInOrder_nil ⟨σ,H,I,h⟩
theorem UI {e:Expr}{es:List Expr}{t:TG}{u:rJ}(h1:PG X e t) (h2:sS X es u)
  (hs:(assignEach (e::es) X.env).map (·.2)=assign e X.env::(assignEach es X.env).map (·.2):=by rfl):sS X (e::es) (Q_ t u):=by
 intro pins s σ H vs us Q I r h;obtain⟨v,vr,e1,h⟩:=h;subst e1;cases r with
 | cons r rr=>
  rw[hs];refine assignInOrder_cons (zQ (h1 pins s σ H _ _ _ I r h) λ _ s1 ⟨σ1,H1,I1,q1⟩=>?_);exact h2 pins s1 σ1 H1 _ _ Q I1 rr q1
noncomputable def ZA (K:PySem.W.Frag) (n:Nat) (t:rJ):TG:=λ v σ H Q=>∃ a xs,v=.ref a/\ym K H a xs/\xs.length=n/\t xs σ H Q
theorem UJ {es:List Expr}{k:Nat}{t:rJ}{n:Nat}(hc:X.calm=true) (h:sS X es t)
  (hn:(assignEach es X.env).length=n:=by rfl) (hst:(assignEach es X.env).findIdx? (·.1)=none:=by rfl):PG X (.Tuple es k pos) (ZA X.K n t):=by
 intro pins s σ H v u Q I r hw;obtain⟨a,xs,e1,hq,hl,hw⟩:=hw;subst e1;cases r;obtain⟨its,rv,ht,hz⟩:=I.tuple hq;refine assign_Tuple_tuple (I.ok.hd hc) ht (by simp[hn,<- hl,rv.length]) hst λ h' hx=>?_;have I1:Inv X pins σ H { s with heap:=h' }:=I.kept (t':=s.toks) λ b o e=>hx b o (Nat.ne_of_lt (Heap.lt_size e)) e;exact h pins _ σ H xs _ Q I1 (by simpa using rv) hw
noncomputable def QY (to ti:TE) (t:eS):TG:=λ v σ H Q=>to σ H λ o H1=>ti σ H1 λ i H2=>t o i v H2 λ H3=>Q σ H3
theorem UK {o i:Expr}{to ti:TE}{t:eS}(ho:PE X o to) (hi:PE X i ti) (hs:YX X t)
  (ha:∀ v,assign (.Subscript o i pos) X.env v=(do
   let ov <- holding [v] (eval o X.env)
   let iv <- holding [v,ov] (eval i X.env)
   standAt pos
   holding [v,ov,iv] (setItem ov iv v)
   release [v,ov,iv] []):=by intro _;rfl):PG X (.Subscript o i pos) (QY to ti t):=by
 intro pins s σ H v u Q I r h;rw[ha];refine zWb (wpAny_holding (zQ (ho pins s σ H _ I h) λ ov s1 ⟨x,H1,I1,r1,q1⟩=>?_));refine zWb (wpAny_holding (zQ (hi pins s1 σ H1 _ I1 q1) λ iv s2 ⟨y,H2,I2,r2,q2⟩=>?_));refine zWb (wpAny_standAt (zWb (wpAny_holding (zQ (hs pins s2 σ H2 x y v ov iv u _ I2 r1 r2 r q2) λ _ s3 ⟨H3,I3,q3⟩=>?_))));exact wpAny_release ⟨σ,H3,I3,q3⟩
def nX (te:TE) (g:TG):TS:=λ D σ H=>te σ H λ x H1=>g x σ H1 D.nx
theorem bF {tg e:Expr}{te:TE}{g:TG}(he:PE X e te) (hg:PG X tg g) (hs:swapsWithSole [tg] e pos.line X.env=pure false:=by rfl) (hw:swappedStores [tg] e X.env=pure none:=by rfl)
  (h1:(assignEach [tg] X.env).map (·.2)=[assign tg X.env]:=by rfl):PS X (.Assign [tg] e pos) (nX te g):=by
 intro pins s σ H D I h;refine wpAny_Assign_stores (zQ (he pins s σ H _ I h) λ v s1 ⟨x,H1,I1,r1,q1⟩=>?_) hs hw;rw[h1];exact zQ (hg pins s1 σ H1 x v _ I1 r1 q1) λ _ s2 q=>q
theorem Uy {i:Nat}{x:Str}{e:Expr}{te:TE}{pos':Pos}(hN:X.N.Nodup) (hi:X.N[i]?=some x) (hx:Loc X.env.scope x) (he:PE X e te) (hs:swapsWith e (some (.Name x pos')) pos.line X.env=pure false:=by rfl) (hf:X.fn x=true\/X.env.scope.names.lookup x=some .local:=by first | exact .inl rfl | exact .inr rfl | assumption):
  PS X (.Assign [.Name x pos'] e pos) (nX te (oO i)):=by
 intro pins s σ H D I h;refine wpAny_Assign_Name (zQ (he pins s σ H _ I h) λ v s1 ⟨y,H1,I1,r1,q1⟩=>?_) hs;exact i4 I1 hN hi hx r1 (λ s2 I2=>⟨_,H1,I2,q1⟩) hf
end
section
variable {X:Cx}{pos:Pos}
def WO (c:TT) (tb:TS):TS:=λ D σ H=>∃ W:Nat->St->Hp->Prop,(∃ m,W m σ H)/\∀ m σ H,W m σ H->
 c σ H λ b H1=>if b=true then ∃ N:St->Hp->Prop,(∀ σ' H',N σ' H'->∃ m',m'<m/\W m' σ' H')/\tb { D with nx:=N,ct:=N,bk:=D.nx } σ H1 else D.nx σ H1
theorem Uw {c:Expr}{body:List Stmt}{tc:TT}{tb:TS}(hp:PassesOwn (model X.prog X.w) X.A X.env X.xe) (hc:PT X c tc) (hb:wR X body tb):PS X (.While c body [] pos) (WO tc tb):=by
 intro pins s σ H D I h;obtain⟨W,⟨m0,w0⟩,turn⟩:=h;refine wpAny_While (codeAny_whileLoop (λ n s'=>∃ σ' H',Inv X pins σ' H' s'/\W n σ' H') ?_ m0 ⟨σ,H,I,w0⟩);rintro n s1 ⟨σ1,H1,I1,w1⟩;refine wpAny_passesOwn hp (zQ (hc pins s1 σ1 H1 _ I1 (turn n σ1 H1 w1)) λ b s2 ⟨H2,I2,q2⟩=>?_);cases b with
 | true=>
  obtain⟨N,hN,q2⟩:=q2;rw[if_pos rfl];refine wpAny_passesOwn hp (zQ (hb pins s2 σ1 H2 _ I2 q2) λ f s3 q3=>?_);cases f with
  | next=>
   obtain⟨σ3,H3,I3,n3⟩:=q3;obtain⟨m',hm,w3⟩:=hN σ3 H3 n3;exact⟨m',hm,σ3,H3,I3,w3⟩
  | cont=>
   obtain⟨σ3,H3,I3,n3⟩:=q3;obtain⟨m',hm,w3⟩:=hN σ3 H3 n3;exact⟨m',hm,σ3,H3,I3,w3⟩
  | brk=>exact q3
  | ret v=>exact q3
 | false=>
  rw[if_neg Bool.false_ne_true];exact wpAny_execs_nil ⟨σ1,H2,I2,q2⟩
end
structure It where
 go:Nat->Hp->Prop
 pU:Nat->Hp->V->Hp->Prop
 stop:Nat->Hp->Prop
def uE (X:Cx) (pins:List (Addr×Obj)) (H:Hp) (b:Addr):Prop:=
 H b=none/\b≠X.env.locals/\b∉X.fs/\(b∈X.ex\/X.s₀.heap.objs.size<=b)/\(∀ x c,X.env.cells.lookup x=some c->c≠b)/\∀ p∈X.pn++pins,p.1≠b
theorem Inv.fO {X:Cx}{pins:List (Addr×Obj)}{σ:St}{H H':Hp}{s:Shared}{b:Addr}(I:Inv X pins σ H s) (hb:s.heap.objs.size<=b) (hn:H' b=none):uE X pins H' b:=by
 refine⟨hn,Nat.ne_of_gt (Nat.lt_of_lt_of_le I.lt hb),I.aE hb,.inr (Nat.le_trans I.sz hb),λ x c e z=>?_,λ p hp z=>?_⟩
 .obtain⟨v,q⟩:=I.cell x c e;exact absurd (Nat.lt_of_lt_of_le q.lt (by rw[z];exact hb)) (Nat.lt_irrefl _)
 .exact absurd (Nat.lt_of_lt_of_le (Heap.lt_size (I.pin p hp).1) (by rw[z];exact hb)) (Nat.lt_irrefl _)
structure Turn (P:Program) (w:World) (K:PySem.W.Frag) (tg:Expr) (J:It) (fp:List Addr) (it:Addr) (tn:Nat->Heap->Prop):Prop where
 mem:it∈fp
 obj:∀ i h,tn i h->∀ b∈fp,∃ o,h.get? b=some o/\∀ v,o.data≠.cell v
 keep:∀ i h h',tn i h->(∀ b∈fp,∀ o,h.get? b=some o->h'.get? b=some o)->tn i h'
 item:∀ (X:Cx),X.prog=P->X.w=w->X.K=K->X.calm=true->∀ (i:Nat) (pins:List (Addr×Obj)) (s:Shared) (σ:St) (H:Hp) (E:Value->Shared->Prop),Inv X pins σ H s->(∀ b∈fp,uE X pins H b)->tn i s.heap->J.go i H->
  wpAny (model P w) X.A (pyNext (.ref it)) (λ r s1=>∃ u,r=some u/\
   wpAny (model P w) X.A (letOwnedTupleGo tg (.ref it) u) (λ _ s2=>∃ x H',Inv X pins σ H' s2/\RelV x u/\J.pU i H x H'/\tn (i+1) s2.heap/\∀ b∈fp,H' b=none) E s1) E s
 done:∀ (X:Cx),X.prog=P->X.w=w->X.K=K->X.calm=true->∀ (i:Nat) (pins:List (Addr×Obj)) (s:Shared) (σ:St) (H:Hp) (E:Value->Shared->Prop),Inv X pins σ H s->(∀ b∈fp,uE X pins H b)->tn i s.heap->J.stop i H->
  wpAny (model P w) X.A (pyNext (.ref it)) (λ r s1=>r=none/\Inv X pins σ H s1) E s
 self:∀ (A:Around) (i:Nat) (s:Shared) (Q:Value->Shared->Prop) (E:Value->Shared->Prop),tn i s.heap->Q (.ref it) s->wpAny (model P w) A (pyIter (.ref it)) Q E s
abbrev TI:=St->Hp->(It->Hp->Prop)->Prop
def YY (X:Cx) (pins:List (Addr×Obj)) (σ:St) (tg:Expr) (R:It->Hp->Prop) (itv:Value) (s2:Shared):Prop:=
 ∃ (it:Addr) (fp:List Addr) (tn:Nat->Heap->Prop) (J:It) (H':Hp),itv=.ref it/\Inv X pins σ H' s2/\Turn X.prog X.w X.K tg J fp it tn/\tn 0 s2.heap/\(∀ b∈fp,uE X pins H' b)/\R J H'
def PI (X:Cx) (tg iter:Expr) (wi:TI):Prop:=
 ∀ (pins:List (Addr×Obj)) (s:Shared) (σ:St) (H:Hp) (R:It->Hp->Prop),Inv X pins σ H s->wi σ H R->
  wpAny (model X.prog X.w) X.A (eval iter X.env) (λ v s1=>wpAny (model X.prog X.w) X.A (pyIter v) (YY X pins σ tg R) X.xe s1) X.xe s
theorem fG {M:Model}{A:Around}{E:Value->Shared->Prop}{s:Shared}{tg:Expr}{it:Addr}{u:Value}{o:Obj}{n:String}{vs:Array Value}{Q:Unit->Shared->Prop}(ho:s.heap.get? it=some o) (hc:o.cls=.type n) (hd:o.data=.fields vs)
  (hn:["enumerate","zip","dict_itemiterator","dict_reverseitemiterator","odict_iterator","itertools.zip_longest","itertools.pairwise"].contains n=false) (hQ:Q () s):wpAny M A (letOwnedTupleGo tg (.ref it) u) Q E s:=by
 unfold letOwnedTupleGo;cases tg <;> first
  | exact wpAny_pure hQ
  | (cases u <;> first
    | exact wpAny_pure hQ
    | (refine zWb (wpAny_load ho ?_)
       rw[hc,hd];show wpAny M A (if (["enumerate","zip","dict_itemiterator","dict_reverseitemiterator","odict_iterator","itertools.zip_longest","itertools.pairwise"].contains n&&vs[0]? == some (rawInt _))=true then _ else _) Q E s;rw[if_neg (by intro h;rw[hn,Bool.false_and] at h;cases h)];exact wpAny_pure hQ))
def Xc (K:PySem.W.Frag) (a:Addr):It:=
 ⟨λ i H=>∃ xs x,yf K H a xs/\xs[i]?=some x,λ i H x H'=>H'=H/\∀ xs,yf K H a xs->xs[i]?=some x,λ i H=>∃ xs,yf K H a xs/\xs.length<=i⟩
def Xb (K:PySem.W.Frag) (a:Addr):It:=
 ⟨λ i H=>∃ xs x,ym K H a xs/\xs[i]?=some x,λ i H x H'=>H'=H/\∀ xs,ym K H a xs->xs[i]?=some x,λ i H=>∃ xs,ym K H a xs/\xs.length<=i⟩
def jT (lo:Int) (n:Nat):It:=⟨λ i _=>i<n,λ i H x H'=>H'=H/\x=.int (lo+i),λ i _=>n<=i⟩
theorem WI {P:Program}{w:World}{K:PySem.W.Frag}{tg:Expr}(a it:Addr):Turn P w K tg (Xc K a) [it] it (λ i h=>h.IsListIter it a i) where
 mem:=by simp
 obj:=λ i h st b hb=>by
  have e:b=it:=by simpa using hb
  subst e;obtain⟨o,e,c,d⟩:=st;exact⟨o,e,λ v z=>by rw[d] at z;cases z⟩
 keep:=λ i h h' st k=>st.at λ o e=>k it (by simp) o e
 item:=by
  intro X hP hw hK hc i pins s σ H E I hf st hg;subst hP hw hK;obtain⟨xs,x,hq,hx⟩:=hg;obtain⟨its,rv,p,hz⟩:=I.list hq;obtain⟨u,hu,ru⟩:=rv.get hx;obtain⟨f0,f1,f2,f3,f4,f5⟩:=hf it (by simp);refine wpAny_pyNext_list_item st p.isList (x:=u) (by simpa using hu) λ h' st' sb=>?_;have I1:Inv X pins σ H { s with heap:=h' }:=I.turned (t':=s.toks) (λ b o hb e=>(sb.2 b hb).trans e) f0 f1 f3 f4 f5;obtain⟨o,e,c,d⟩:=id st';exact⟨u,rfl,fG (s:={ s with heap:=h' }) e c d (by decide) ⟨x,H,I1,ru,⟨rfl,λ ys hy=>by rw[I.fh hy hq];exact hx⟩,st',λ b hb=>(hf b hb).1⟩⟩
 done:=by
  intro X hP hw hK hc i pins s σ H E I hf st hg;subst hP hw hK;obtain⟨xs,hq,hx⟩:=hg;obtain⟨its,rv,p,hz⟩:=I.list hq;obtain⟨f0,f1,f2,f3,f4,f5⟩:=hf it (by simp);have hl:=rv.length;exact wpAny_pyNext_list_end (I.ok.hd hc) st p.isList (by simp;omega) λ h' eb=>⟨rfl,I.turned (t':=s.toks) (λ b o hb e=>eb b o hb e) f0 f1 f3 f4 f5⟩
 self:=λ _ _ _ _ _ st h=>wpAny_pyIter_listiter st h
theorem WG {P:Program}{w:World}{K:PySem.W.Frag}{tg:Expr}(a it:Addr):Turn P w K tg (Xb K a) [it] it (λ i h=>h.IsTupleIter it a i) where
 mem:=by simp
 obj:=λ i h st b hb=>by
  have e:b=it:=by simpa using hb
  subst e;obtain⟨o,e,c,d⟩:=st;exact⟨o,e,λ v z=>by rw[d] at z;cases z⟩
 keep:=λ i h h' st k=>st.at λ o e=>k it (by simp) o e
 item:=by
  intro X hP hw hK hc i pins s σ H E I hf st hg;subst hP hw hK;obtain⟨xs,x,hq,hx⟩:=hg;obtain⟨its,rv,p,hz⟩:=I.tuple hq;obtain⟨u,hu,ru⟩:=rv.get hx;obtain⟨f0,f1,f2,f3,f4,f5⟩:=hf it (by simp);refine wpAny_pyNext_tuple_item st (show s.heap.IsTuple a its.toArray from p) (x:=u) (by simpa using hu) λ h' st' sb=>?_;have I1:Inv X pins σ H { s with heap:=h' }:=I.turned (t':=s.toks) (λ b o hb e=>(sb.2 b hb).trans e) f0 f1 f3 f4 f5;obtain⟨o,e,c,d⟩:=id st';exact⟨u,rfl,fG (s:={ s with heap:=h' }) e c d (by decide) ⟨x,H,I1,ru,⟨rfl,λ ys hy=>by rw[I.ir hy hq];exact hx⟩,st',λ b hb=>(hf b hb).1⟩⟩
 done:=by
  intro X hP hw hK hc i pins s σ H E I hf st hg;subst hP hw hK;obtain⟨xs,hq,hx⟩:=hg;obtain⟨its,rv,p,hz⟩:=I.tuple hq;obtain⟨f0,f1,f2,f3,f4,f5⟩:=hf it (by simp);have hl:=rv.length;exact wpAny_pyNext_tuple_end (I.ok.hd hc) st (show s.heap.IsTuple a its.toArray from p) (by simp;omega) λ h' eb=>⟨rfl,I.turned (t':=s.toks) (λ b o hb e=>eb b o hb e) f0 f1 f3 f4 f5⟩
 self:=λ _ _ _ _ _ st h=>wpAny_pyIter_tupleiter st h
theorem WH {P:Program}{w:World}{K:PySem.W.Frag}{tg:Expr}(it:Addr) (lo:Int) (n:Nat):Turn P w K tg (jT lo n) [it] it (λ i h=>IsRangeIter h it (lo+(i:Nat)*1) ((n:Int)-(i:Nat)) 1) where
 mem:=by simp
 obj:=λ i h st b hb=>by
  have e:b=it:=by simpa using hb
  subst e;exact⟨_,st,λ v z=>by
   have z':Data.fields _=Data.cell v:=z;cases z'⟩
 keep:=λ i h h' st k=>k it (by simp) _ st
 item:=by
  intro X hP hw hK hc i pins s σ H E I hf st hg;subst hP hw hK;obtain⟨f0,f1,f2,f3,f4,f5⟩:=hf it (by simp);have W:=Walks.range (prog:=X.prog) (w:=X.w) (I.ok.hd hc) it lo 1 n;refine W.item i s _ _ hg st λ v h' tk hv st' kk=>?_;obtain⟨t,rfl⟩:=hv;have I1:Inv X pins σ H { s with heap:=h',toks:=tk }:=I.turned (λ b o hb e=>kk b o (by simpa using hb) e) f0 f1 f3 f4 f5;refine⟨_,rfl,fG (s:={ s with heap:=h',toks:=tk }) (n:="range_iterator") st' rfl rfl (by decide) ⟨.int (lo+i),H,I1,⟨t,?_⟩,⟨rfl,rfl⟩,st',λ b hb=>(hf b hb).1⟩⟩;rw[Int.mul_one]
 done:=by
  intro X hP hw hK hc i pins s σ H E I hf st hg;subst hP hw hK;obtain⟨f0,f1,f2,f3,f4,f5⟩:=hf it (by simp);exact wpAny_pyNext_range_end (I.ok.hd hc) st (by have:n<=i:=hg;omega) λ h' eb=>⟨rfl,I.turned (t':=s.toks) (λ b o hb e=>eb b o hb e) f0 f1 f3 f4 f5⟩
 self:=λ _ _ _ _ _ st h=>wpAny_pyIter_rangeiter st h
end L2
namespace L2
open PySem PySem.Spec PyProof.Rows
section
variable {X:Cx}{tg:Expr}
theorem Ub {pins:List (Addr×Obj)}{σ:St}{H:Hp}{s:Shared}{R:It->Hp->Prop}{E:Value->Shared->Prop}{lo hi:Int}{t u v:Tok}{tk:Nat}(I:Inv X pins σ H s) (h1:-(2 ^ 62)<=lo) (h2:lo<2 ^ 62) (h3:-(2 ^ 62)<=hi) (h4:hi<2 ^ 62)
  (q:R (jT lo (hi-lo).toNat) H):wpAny (model X.prog X.w) X.A (pyIter (.ref s.heap.objs.size)) (YY X pins σ tg R) E { s with heap:=s.heap.push { cls:=.type "range",data:=.fields #[.int lo t,.int hi u,.int 1 v] },toks:=tk }:=by
 refine wpAny_pyIter_range (IsRange.new ..) (small_one h1 h2 h3 h4) ?_;have I1:Inv X pins σ H { s with heap:=s.heap.push { cls:=.type "range",data:=.fields #[.int lo t,.int hi u,.int 1 v] },toks:=tk }:=I.kept λ b o e=>zHp _ e;refine⟨(s.heap.push { cls:=.type "range",data:=.fields #[.int lo t,.int hi u,.int 1 v] }).objs.size,[(s.heap.push { cls:=.type "range",data:=.fields #[.int lo t,.int hi u,.int 1 v] }).objs.size],_,_,H,rfl,
  I1.kept (t':=tk) λ b o e=>zHp _ e,WH _ lo (hi-lo).toNat,?_,λ b hb=>?_,q⟩
 .have e1:lo+((0:Nat):Int)*1=lo:=by simp
  have e2:(((hi-lo).toNat:Nat):Int)-((0:Nat):Int)=Builtin.Range.rangeSize lo hi 1:=by rw[rangeSize_one];split <;> omega
  show IsRangeIter _ _ (lo+((0:Nat):Int)*1) ((((hi-lo).toNat:Nat):Int)-((0:Nat):Int)) 1;rw[e1,e2];exact Heap.get?_push_size _ rfl
 .have e:b=(s.heap.push { cls:=.type "range",data:=.fields #[.int lo t,.int hi u,.int 1 v] }).objs.size:=by simpa using hb
  subst e;exact I1.fO (Nat.le_refl _) (I1.zJ.fresh (Nat.le_refl _))
def Zz (ta:TA):TI:=fun σ H R=>ta σ H λ vs H1=>∃ j:Int,vs=[.int j]/\-(2 ^ 62)<=j/\j<2 ^ 62/\R (jT 0 j.toNat) H1
theorem UE {a:Expr}{ta:TA}{p pos:Pos}(hg:Gl X "range") (hm:X.mg "range"=none) (ha:PA X [a] ta) (hs:starEach [a] X.env=[(false,eval a X.env)]:=by rfl):PI X tg (.Call (.Name "range" p) [a] [] pos) (Zz ta):=by
 intro pins s σ H R I h;refine Call_ (mK I hg hm boot_range (PyProof.Rows.callWith_type1 (zQ (ha pos pins s σ H _ I h) λ us s1 ⟨vs,H1,I1,r1,q1⟩=>?_) hs rfl));obtain⟨j,e,q1,q2,q⟩:=q1;subst e;cases r1 with
 | cons r rr=>
  cases rr;obtain⟨t,rfl⟩:=r;exact call_range_1 (Ub I1 (by omega) (by omega) q1 q2 (by simpa using q))
def Vg (wi:TI) (g:TG) (tb:TS):TS:=λ D σ H=>wi σ H λ J H1=>∃ W:Nat->Nat->St->Hp->Prop,(∃ m,W 0 m σ H1)/\∀ i m σ H,W i m σ H->
 (J.stop i H/\D.nx σ H)\/(J.go i H/\∃ N:St->Hp->Prop,(∀ σ' H',N σ' H'->∃ m',m'<m/\W (i+1) m' σ' H')/\∀ x H',J.pU i H x H'->g x σ H' fun σ2 H2=>tb { D with nx:=N,ct:=N,bk:=D.nx } σ2 H2)
noncomputable def mr (fp:List Addr) (h:Heap):List (Addr×Obj):=fp.filterMap λ b=>(h.get? b).map λ o=>(b,o)
theorem kY {fp:List Addr}{h:Heap}{b:Addr}{o:Obj}(hb:b∈fp) (e:h.get? b=some o):(b,o)∈mr fp h:=List.mem_filterMap.mpr ⟨b,hb,by rw[e];rfl⟩
theorem RB {fp:List Addr}{h:Heap}{p:Addr×Obj}(hp:p∈mr fp h):p.1∈fp/\h.get? p.1=some p.2:=by
 obtain⟨b,hb,e⟩:=List.mem_filterMap.mp hp;cases q:h.get? b with
 | none=>rw[q] at e;cases e
 | some o=>
  rw[q] at e;have e':(b,o)=p:=Option.some.inj e;subst e';exact⟨hb,q⟩
theorem Inv.pinned {pins:List (Addr×Obj)}{σ:St}{H:Hp}{s:Shared}{fp:List Addr}(I:Inv X pins σ H s) (hf:∀ b∈fp,uE X pins H b) (ho:∀ b∈fp,∃ o,s.heap.get? b=some o/\∀ v,o.data≠.cell v):Inv X (pins++mr fp s.heap) σ H s:=
 I.gC λ p hp=>(List.mem_append.mp hp).elim (λ z=>I.pin p (List.mem_append_right _ z)) λ z=>by
  obtain⟨hb,e⟩:=RB z;obtain⟨f0,f1,f2,_⟩:=hf p.1 hb;obtain⟨o,e',d⟩:=ho p.1 hb;rw[e] at e';cases e';exact⟨e,f0,f1,f2,d⟩
theorem Inv.nV {pins pl:List (Addr×Obj)}{σ:St}{H:Hp}{s:Shared}(I:Inv X (pins++pl) σ H s):Inv X pins σ H s:=I.gC λ p hp=>I.pin p (List.mem_append_right _ (List.mem_append_left _ hp))
theorem U1 {iter:Expr}{body:List Stmt}{wi:TI}{g:TG}{tb:TS}{pos:Pos}(hp:PassesOwn (model X.prog X.w) X.A X.env X.xe) (hc:X.calm=true) (hi:PI X tg iter wi) (hg:PG X tg g) (hb:wR X body tb)
  (hs:∀ x,foldedSetIterable iter X.env x=pure x:=by intro _;rfl):PS X (.For tg iter body [] pos) (Vg wi g tb):=by
 intro pins s σ H D I h;refine wpAny_For (zQ (hi pins s σ H _ I h) λ v s1 h1=>zQ h1 λ itv s2 h2=>?_) hs;obtain⟨it,fp,tn,J,H2,e,I2,T,st2,f2,W,⟨m0,w0⟩,turn⟩:=h2;subst e;have stat:∀ {H':Hp},(∀ b∈fp,H' b=none)->∀ b∈fp,uE X pins H' b:=λ hn b hb=>⟨hn b hb,(f2 b hb).2⟩;refine codeAny_forLoop_any (λ n s'=>∃ i σ' H',Inv X pins σ' H' s'/\tn i s'.heap/\(∀ b∈fp,H' b=none)/\W i n σ' H') ?_ m0 ⟨0,σ,H2,I2,st2,λ b hb=>(f2 b hb).1,w0⟩;rintro n s3 ⟨i,σ3,H3,I3,st3,fr3,w3⟩;rcases turn i n σ3 H3 w3 with ⟨stop,qn⟩ | ⟨go,N,hN,step⟩
 .refine wpAny_passesOwn hp (zQ (T.done X rfl rfl rfl hc i pins s3 σ3 H3 X.xe I3 (stat fr3) st3 stop) λ r s4 ⟨hr,I4⟩=>?_);subst hr;exact wpAny_execs_nil ⟨σ3,H3,I4,qn⟩
 .refine wpAny_passesOwn hp (zQ (T.item X rfl rfl rfl hc i pins s3 σ3 H3 X.xe I3 (stat fr3) st3 go) λ r s4 ⟨u,hr,h4⟩=>?_);subst hr;refine wpAny_passesOwn hp (zQ h4 λ _ s5 ⟨x,H5,I5,r5,y5,st5,fr5⟩=>?_);have I5':=I5.pinned (stat fr5) (T.obj _ _ st5);refine wpAny_passesOwn hp (zQ (hg _ s5 σ3 H5 x u _ I5' r5 (step x H5 y5)) λ _ s6 ⟨σ6,H6,I6,q6⟩=>?_);refine wpAny_passesOwn hp (zQ (hb _ s6 σ6 H6 _ I6 q6) λ f s7 q7=>?_);have again:∀ {σ7:St}{H7:Hp},Inv X (pins++mr fp s5.heap) σ7 H7 s7->N σ7 H7->∃ m,m<n/\∃ i σ' H',Inv X pins σ' H' s7/\tn i s7.heap/\(∀ b∈fp,H' b=none)/\W i m σ' H':=λ{σ7 H7} I7 n7=>by
   obtain⟨m',hm,w7⟩:=hN σ7 H7 n7;refine⟨m',hm,i+1,σ7,H7,I7.nV,T.keep _ _ _ st5 λ b hb o e=>(I7.pin (b,o) (List.mem_append_right _ (List.mem_append_right _ (kY hb e)))).1,λ b hb=>?_,w7⟩;obtain⟨o,e,d⟩:=T.obj _ _ st5 b hb;exact (I7.pin (b,o) (List.mem_append_right _ (List.mem_append_right _ (kY hb e)))).2.1
  cases f with
  | next=>obtain⟨σ7,H7,I7,n7⟩:=q7;exact again I7 n7
  | cont=>obtain⟨σ7,H7,I7,n7⟩:=q7;exact again I7 n7
  | brk=>obtain⟨σ7,H7,I7,q7⟩:=q7;exact⟨σ7,H7,I7.nV,q7⟩
  | ret v=>obtain⟨x7,σ7,H7,I7,r7,q7⟩:=q7;exact⟨x7,σ7,H7,I7.nV,r7,q7⟩
end
end L2
namespace L2
open PySem PySem.Spec PyProof.Rows
abbrev R2:=V->V->Hp->VK->Prop
def y4 (X:Cx) (f:Value->Value->Sem Value) (r:R2):Prop:=
 ∀ (pins:List (Addr×Obj)) (s:Shared) (σ:St) (H:Hp) (x y:V) (v u:Value) (Q:VK),Inv X pins σ H s->RelV x v->RelV y u->r x y H Q->
  wpAny (model X.prog X.w) X.A (f v u) (EP X pins σ Q) X.xe s
def eQ (X:Cx) (f:Value->Sem Value) (r:V->Hp->VK->Prop):Prop:=
 ∀ (pins:List (Addr×Obj)) (s:Shared) (σ:St) (H:Hp) (x:V) (v:Value) (Q:VK),Inv X pins σ H s->RelV x v->r x H Q->
  wpAny (model X.prog X.w) X.A (f v) (EP X pins σ Q) X.xe s
def y_ (X:Cx) (f:Value) (r:List V->Hp->VK->Prop):Prop:=
 ∀ (pins:List (Addr×Obj)) (s:Shared) (σ:St) (H:Hp) (xs:List V) (us:List Value) (Q:VK),Inv X pins σ H s->Vals xs us->r xs H Q->
  wpAny (model X.prog X.w) X.A (call f us) (EP X pins σ Q) X.xe s
def Nq (X:Cx) (r:V->Hp->(Bool->Hp->Prop)->Prop):Prop:=
 ∀ (pins:List (Addr×Obj)) (s:Shared) (σ:St) (H:Hp) (x:V) (v:Value) (Q:Bool->Hp->Prop),Inv X pins σ H s->RelV x v->r x H Q->
  wpAny (model X.prog X.w) X.A (truthy v) (TP X pins σ Q) X.xe s
def nW (r:R2) (ta tb:TE):TE:=fun σ H Q=>ta σ H λ x H1=>tb σ H1 λ y H2=>r x y H2 Q
def WQ (r:V->Hp->VK->Prop) (ta:TE):TE:=fun σ H Q=>ta σ H λ x H1=>r x H1 Q
def rI (C:Int->Int->Prop) (g:Int->Int->V):R2:=λ x y H Q=>∃ i j,x=.int i/\y=.int j/\C i j/\Q (g i j) H
def vC (g:Int->Int->V):R2:=λ x y H Q=>∃ i j,x=.int i/\y=.int j/\Q (g i j) H
def rU (g:Int->V):V->Hp->VK->Prop:=λ x H Q=>∃ i,x=.int i/\Q (g i) H
section
variable {X:Cx}{a b c:Expr}{ta tb tc:TE}{pos:Pos}
theorem eF (ha:PE X a ta) (hb:PE X b tb) {pins:List (Addr×Obj)}{s:Shared}{σ:St}{H:Hp}{R:V->V->Hp->Prop}(I:Inv X pins σ H s)
  (h:ta σ H λ x H1=>tb σ H1 λ y H2=>R x y H2) {Q:Value->Shared->Prop}{f:Value->Value->Sem Value}
  (hf:∀ v u s2 x y H2,Inv X pins σ H2 s2->RelV x v->RelV y u->R x y H2->wpAny (model X.prog X.w) X.A (f v u) Q X.xe s2):
  wpAny (model X.prog X.w) X.A (eval a X.env) (λ v s₁=>wpAny (model X.prog X.w) X.A (eval b X.env) (λ u s₂=>wpAny (model X.prog X.w) X.A (f v u) Q X.xe s₂) X.xe s₁) X.xe s:=by
 refine zQ (ha pins s σ H _ I h) λ v s1 ⟨x,H1,I1,r1,q1⟩=>?_;refine zQ (hb pins s1 σ H1 _ I1 q1) λ u s2 ⟨y,H2,I2,r2,q2⟩=>?_;exact hf v u s2 x y H2 I2 r1 r2 q2
theorem UU {op:Operator}{r:R2}(ho:y4 X (binaryOp op) r) (ha:PE X a ta) (hb:PE X b tb):PE X (.BinOp a op b pos) (nW r ta tb):=by
 intro pins s σ H Q I h;exact wpAny_BinOp (eF ha hb I h λ v u s2 x y H2 I2 rx ry q=>ho pins s2 σ H2 x y v u Q I2 rx ry q)
theorem UQ {op:UnaryOp}{r:V->Hp->VK->Prop}(ho:eQ X (unaryOp op) r) (ha:PE X a ta):PE X (.UnaryOp op a pos) (WQ r ta):=by
 intro pins s σ H Q I h;exact UnaryOp_ (zQ (ha pins s σ H _ I h) λ v s1 ⟨x,H1,I1,r1,q1⟩=>ho pins s1 σ H1 x v Q I1 r1 q1)
theorem kM {f:Value->Value->Sem Value}{C:Int->Int->Prop}{g:Int->Int->Int}
  (rule:∀ (i j:Int) (t u:Tok) (s:Shared) (Q:Value->Shared->Prop) (E:Value->Shared->Prop),C i j->Q (.int (g i j) s.toks) { s with toks:=s.toks+1 }->wpAny (model X.prog X.w) X.A (f (.int i t) (.int j u)) Q E s):
  y4 X f (rI C λ i j=>.int (g i j)):=by
 intro pins s σ H x y v u Q I rx ry h;obtain⟨i,j,rfl,rfl,hc,q⟩:=h;obtain⟨t,rfl⟩:=rx;obtain⟨t',rfl⟩:=ry;exact rule i j t t' s _ _ hc ⟨.int (g i j),H,I.tok _,⟨_,rfl⟩,q⟩
theorem ar {f:Value->Value->Sem Value}{g:Int->Int->Int}
  (rule:∀ (i j:Int) (t u:Tok) (s:Shared) (Q:Value->Shared->Prop) (E:Value->Shared->Prop),Q (.int (g i j) s.toks) { s with toks:=s.toks+1 }->wpAny (model X.prog X.w) X.A (f (.int i t) (.int j u)) Q E s):
  y4 X f (vC λ i j=>.int (g i j)):=by
 intro pins s σ H x y v u Q I rx ry h;obtain⟨i,j,rfl,rfl,q⟩:=h;obtain⟨t,rfl⟩:=rx;obtain⟨t',rfl⟩:=ry;exact rule i j t t' s _ _ ⟨.int (g i j),H,I.tok _,⟨_,rfl⟩,q⟩
theorem kN {f:Value->Value->Sem Value}{g:Int->Int->Bool}
  (rule:∀ (i j:Int) (t u:Tok) (s:Shared) (Q:Value->Shared->Prop) (E:Value->Shared->Prop),Q (.bool (g i j)) s->wpAny (model X.prog X.w) X.A (f (.int i t) (.int j u)) Q E s):
  y4 X f (vC λ i j=>.bl (g i j)):=by
 intro pins s σ H x y v u Q I rx ry h;obtain⟨i,j,rfl,rfl,q⟩:=h;obtain⟨t,rfl⟩:=rx;obtain⟨t',rfl⟩:=ry;exact rule i j t t' s _ _ ⟨.bl (g i j),H,I,rfl,q⟩
def wI (i j:Int):Prop:=0<j/\j<1073741824
def pT (i j:Int):Prop:=0<=j/\j<=1000000/\i.natAbs<2 ^ 64
def ve (i j:Int):Prop:=(-(2 ^ 64)<i/\i<2 ^ 64)\/(-(2 ^ 64)<j/\j<2 ^ 64)
theorem ve.ok {i j:Int}(h:ve i j):IntMulOk i j:=by
 rcases h with ⟨h1,h2⟩ | ⟨h1,h2⟩
 .exact .of_left (intBits_le_64 h1 h2)
 .exact .of_right (intBits_le_64 h1 h2)
theorem Sy:y4 X (binaryOp .Add) (vC λ i j=>.int (i+j)):=ar λ _ _ _ _ _ _ _ q=>add_int q
theorem TX:y4 X (binaryOp .Sub) (vC λ i j=>.int (i-j)):=ar λ _ _ _ _ _ _ _ q=>sub_int q
theorem Sd:y4 X (binaryOp .Mult) (rI ve λ i j=>.int (i*j)):=kM λ _ _ _ _ _ _ _ hc q=>mul_int q hc.ok
theorem So:y4 X (binaryOp .FloorDiv) (rI wI λ i j=>.int (i/j)):=kM λ i j _ _ _ _ _ hc q=>by
 have h1:(0:Int)<j:=hc.1;have h2:j<1073741824:=hc.2;exact floordiv_int (by omega) (by rw[Int.fdiv_eq_ediv_of_nonneg i (by omega)];exact q) (.inl (PyProof.noPylong_small (by omega)))
theorem Se:y4 X (binaryOp .Mod) (rI (λ _ j=>0<j) λ i j=>.int (i%j)):=kM λ i j _ _ _ _ _ hc q=>by
 have h1:(0:Int)<j:=hc;exact mod_int' (by omega) (by rw[Int.fmod_eq_emod_of_nonneg i (by omega)];exact q)
theorem TY:y4 X (binaryOp .Pow) (rI pT λ i j=>.int (i ^ j.toNat)):=kM λ _ _ _ _ _ _ _ hc q=>pow_int_small hc.1 hc.2.1 hc.2.2 q
theorem WC {f:Value->Sem Value}{g:Int->Int}
  (rule:∀ (i:Int) (t:Tok) (s:Shared) (Q:Value->Shared->Prop) (E:Value->Shared->Prop),Q (.int (g i) s.toks) { s with toks:=s.toks+1 }->wpAny (model X.prog X.w) X.A (f (.int i t)) Q E s):
  eQ X f (rU λ i=>.int (g i)):=by
 intro pins s σ H x v Q I rx h;obtain⟨i,rfl,q⟩:=h;obtain⟨t,rfl⟩:=rx;exact rule i t s _ _ ⟨.int (g i),H,I.tok _,⟨_,rfl⟩,q⟩
theorem WB:eQ X (unaryOp .USub) (rU λ i=>.int (-i)):=WC λ _ _ _ _ _ q=>neg_int q
end
section
variable {X:Cx}{a b c:Expr}{ta tb tc:TE}{pos:Pos}
theorem ZI {pins:List (Addr×Obj)}{σ:St}{H:Hp}{s:Shared}{Q:VK}{k k':Bool}(I:Inv X pins σ H s) (q:Q (.bl k) H) (e:k=k'):EP X pins σ Q (.bool k') s:=by
 subst e;exact⟨.bl k,H,I,rfl,q⟩
theorem Sg:y4 X (compareOp .Lt) (vC λ i j=>.bl (decide (i<j))):=kN λ _ _ _ _ _ _ _ q=>lt_int q
theorem gJ:y4 X (compareOp .LtE) (vC λ i j=>.bl (decide (i<=j))):=kN λ _ _ _ _ _ _ _ q=>le_int q
theorem Sk:y4 X (compareOp .Gt) (vC λ i j=>.bl (decide (j<i))):=kN λ _ _ _ _ _ _ _ q=>gt_int q
theorem ao:y4 X (compareOp .GtE) (vC λ i j=>.bl (decide (j<=i))):=kN λ _ _ _ _ _ _ _ q=>ge_int q
theorem Sh:y4 X (compareOp .Is) (λ x y H Q=>y=.zl/\Q (.bl (decide (x=.zl))) H):=by
 intro pins s σ H x y v u Q I rx ry h;obtain⟨rfl,q⟩:=h;cases ry;refine is_none_gen (ZI I q ?_);cases x <;> first
  | (cases rx;rfl)
  | (obtain⟨t,rfl⟩:=rx;rfl)
theorem ai:y4 X (compareOp .IsNot) (λ x y H Q=>y=.zl/\Q (.bl (!decide (x=.zl))) H):=by
 intro pins s σ H x y v u Q I rx ry h;obtain⟨rfl,q⟩:=h;cases ry;refine isnot_none_gen (ZI I q ?_);cases x <;> first
  | (cases rx;rfl)
  | (obtain⟨t,rfl⟩:=rx;rfl)
theorem y4.or {f:Value->Value->Sem Value}{r r':R2}(h:y4 X f r) (h':y4 X f r'):y4 X f (λ x y H Q=>r x y H Q\/r' x y H Q):=by
 intro pins s σ H x y v u Q I rx ry q;rcases q with q | q
 .exact h pins s σ H x y v u Q I rx ry q
 .exact h' pins s σ H x y v u Q I rx ry q
theorem uM (b:Expr) {op:CmpOp}(h:op≠.In:=by decide) (h2:op≠.NotIn:=by decide):behindInMarks op b=false:=by
 have e1:(op == CmpOp.In)=false:=by cases op <;> first | rfl | exact absurd rfl h
 have e2:(op == CmpOp.NotIn)=false:=by cases op <;> first | rfl | exact absurd rfl h2
 cases b <;> simp[behindInMarks,e1,e2]
theorem Th {op:CmpOp}{r:R2}(ho:y4 X (compareOp op) r) (ha:PE X a ta) (hb:PE X b tb) (hm:behindInMarks op b=false):PE X (.Compare a [op] [b] pos) (nW r ta tb):=by
 intro pins s σ H Q I h;exact wpAny_Compare1 (eF ha hb I h λ v u s2 x y H2 I2 rx ry q=>ho pins s2 σ H2 x y v u Q I2 rx ry q) hm
def WT (t:TE):TT:=fun σ H Q=>t σ H λ x H'=>∃ k,x=.bl k/\Q k H'
theorem Us {op:CmpOp}{r:R2}(ho:y4 X (compareOp op) r) (ha:PE X a ta) (hb:PE X b tb) (hm:behindInMarks op b=false):PT X (.Compare a [op] [b] pos) (WT (nW r ta tb)):=by
 intro pins s σ H Q I h;refine wpAny_isTrue_Compare1 (zQ (ha pins s σ H _ I h) λ v s1 ⟨x,H1,I1,r1,q1⟩=>zQ (hb pins s1 σ H1 _ I1 q1) λ u s2 ⟨y,H2,I2,r2,q2⟩=>
  zQ (ho pins s2 σ H2 x y v u _ I2 r1 r2 q2) λ c s3 ⟨z,H3,I3,r3,k,e,q3⟩=>?_) hm
 subst e;cases r3;exact wpAny_truthy_bool ⟨H3,I3,q3⟩
def cD (r r':R2) (ta tb tc:TE):TE:=fun σ H Q=>ta σ H λ x H1=>tb σ H1 λ y H2=>r x y H2 λ z H3=>∃ k,z=.bl k/\
 (if k=true then tc σ H3 λ w' H4=>r' y w' H4 Q else Q (.bl false) H3)
theorem Ti {op op':CmpOp}{r r':R2}(ho:y4 X (compareOp op) r) (ho':y4 X (compareOp op') r') (ha:PE X a ta) (hb:PE X b tb) (hc:PE X c tc)
  (hm:lastMarks [op,op'] [b,c]=false:=by with_unfolding_all rfl):PE X (.Compare a [op,op'] [b,c] pos) (cD r r' ta tb tc):=by
 intro pins s σ H Q I h;refine Compare_chain (zQ (ha pins s σ H _ I h) λ v s1 ⟨x,H1,I1,r1,q1⟩=>chain_link (zQ (hb pins s1 σ H1 _ I1 q1) λ u s2 ⟨y,H2,I2,r2,q2⟩=>
  zQ (ho pins s2 σ H2 x y v u _ I2 r1 r2 q2) λ d s3 ⟨z,H3,I3,r3,k,e,q3⟩=>?_)) hm
 subst e;cases r3;refine wpAny_truthy_bool ?_;cases k with
 | false=>exact ite_ff ⟨.bl false,H3,I3,rfl,q3⟩
 | true=>exact ite_tt (chain_last (zQ (hc pins s3 σ H3 _ I3 q3) λ w' s4 ⟨z',H4,I4,r4,q4⟩=>ho' pins s4 σ H4 y z' u w' Q I4 r2 r4 q4))
def eR (K:PySem.W.Frag) (x:V) (H:Hp) (k:Bool):Prop:=
 match x with
 | .zl=>k=false
 | .bl b=>k=b
 | .int i=>k=(i != 0)
 | .str y=>y.length<=sizeLine/\k=((y.length:Int) != 0)
 | .oW y=>y.size<=sizeLine/\k=((y.size:Int) != 0)
 | .ref p=>(∃ xs,yf K H p xs/\k=!xs.isEmpty)\/(∃ xs,ym K H p xs/\k=!xs.isEmpty)\/∃ kvs,H p=some (.dK kvs)/\k=!kvs.isEmpty
 | _=>False
theorem Q9 {κ:Type}{kvs:List (κ × V)}{vs:List (κ × Value)}(r:KV kvs vs):(!vs.isEmpty)=!kvs.isEmpty:=by
 cases r <;> rfl
theorem Zl {xs:List V}{its:List Value}(r:Vals xs its):(!its.toArray.isEmpty)=!xs.isEmpty:=by
 cases r <;> simp
theorem ph:(sizeLine:Nat)<2 ^ 63:=by rw[sizeLine_eq];decide
theorem WM:Nq X (λ x H Q=>∃ k,eR X.K x H k/\Q k H):=by
 intro pins s σ H x v Q I rx h;obtain⟨k,e,q⟩:=h;have hl:=ph;have hs:sizeLine=16777216:=sizeLine_eq;cases x with
 | zl=>
  cases rx;have e':k=false:=e;subst e';exact truthy_none ⟨H,I,q⟩
 | bl b=>
  cases rx;have e':k=b:=e;subst e';exact wpAny_truthy_bool ⟨H,I,q⟩
 | int i=>
  obtain⟨t,rfl⟩:=rx;have e':k=(i != 0):=e;subst e';exact PySem.P.truthy_int ⟨H,I,q⟩
 | str y=>
  obtain⟨t,rfl⟩:=rx;obtain⟨hy,e'⟩:y.length<=sizeLine/\k=((y.length:Int) != 0):=e;subst e';exact PySem.P.truthy_str (by omega) ⟨H,I.tok _,q⟩
 | oW y=>
  obtain⟨t,rfl⟩:=rx;obtain⟨hy,e'⟩:y.size<=sizeLine/\k=((y.size:Int) != 0):=e;subst e';exact PySem.W.truthy_bytes (by omega) ⟨H,I.tok _,q⟩
 | ref p=>
  cases rx;have e':(∃ xs,yf X.K H p xs/\k=!xs.isEmpty)\/(∃ xs,ym X.K H p xs/\k=!xs.isEmpty)\/∃ kvs,H p=some (.dK kvs)/\k=!kvs.isEmpty:=e;rcases e' with ⟨xs,hx,e'⟩ | ⟨xs,hx,e'⟩ | ⟨kvs,hx,e'⟩
  .subst e';obtain⟨its,r,pl,hz⟩:=I.list hx;have hlen:=r.length;exact wpAny_truthy_list pl.isList (by simp only[List.size_toArray];omega) ⟨H,I.tok _,by rw[Zl r];exact q⟩
  .subst e';obtain⟨its,r,pl,hz⟩:=I.tuple hx;have hlen:=r.length;exact truthy_tuple pl (by simp only[List.size_toArray];omega) ⟨H,I.tok _,by rw[Zl r];exact q⟩
  .subst e';obtain⟨hz,hS,vs,r,m⟩:kvs.length<=sizeLine/\(p == sysModules)=false/\∃ vs,KV kvs vs/\s.heap.DictOf (vw X.prog X.w) p vs:=I.zJ p _ hx;have hlen:kvs.length=vs.length:=Paired.length r;exact wpAny_truthy_dict hS m (by omega) ⟨H,I.tok _,by rw[Q9 r];exact q⟩
 | _=>exact (show False from e).elim
theorem Uq (ha:PE X a ta) (he:∀ whole,isTrue a X.env whole=(do let v <- whole;standAt a.pos;holding [v] (truthy v))):
  PT X a (fun σ H Q=>ta σ H λ x H'=>∃ k,eR X.K x H' k/\Q k H'):=by
 intro pins s σ H Q I h;exact isTrue_plain (zQ (ha pins s σ H _ I h) λ v s1 ⟨x,H1,I1,r1,q1⟩=>WM pins s1 σ H1 x v Q I1 r1 q1) (he _)
theorem Sv:y4 X (binaryOp .Add) (λ x y H Q=>∃ i j,x=.str i/\y=.str j/\i.length+j.length<=sizeLine/\Q (.str (i++j)) H):=by
 intro pins s σ H x y v u Q I rx ry h;obtain⟨i,j,rfl,rfl,hz,q⟩:=h;obtain⟨t,rfl⟩:=rx;obtain⟨t',rfl⟩:=ry;exact add_str (λ t' tk=>⟨.str (i++j),H,I.tok _,⟨_,rfl⟩,q⟩) hz
theorem vals1 {x:V}{us:List Value}(r:Vals [x] us):∃ u,us=[u]/\RelV x u:=by
 cases r with
 | cons r1 r2=>cases r2;exact⟨_,rfl,r1⟩
theorem vals2 {x y:V}{us:List Value}(r:Vals [x,y] us):∃ u w',us=[u,w']/\RelV x u/\RelV y w':=by
 cases r with
 | cons r1 r2=>
  cases r2 with
  | cons r3 r4=>cases r4;exact⟨_,_,rfl,r1,r3⟩
theorem OI (hc:X.calm=true):y_ X (.builtin "max") (λ xs H Q=>∃ i j,xs=[.int i,.int j]/\Q (.int (if j>i then j else i)) H):=by
 intro pins s σ H xs us Q I r h;obtain⟨i,j,rfl,q⟩:=h;obtain⟨u,w',rfl,⟨t,rfl⟩,⟨t',rfl⟩⟩:=vals2 r;refine max_two_ints (I.ok.hd hc) λ h' tk k=>⟨_,H,I.kept k,?_,q⟩;by_cases hj:j>i
 .rw[if_pos hj,if_pos hj];exact⟨_,rfl⟩
 .rw[if_neg hj,if_neg hj];exact⟨_,rfl⟩
theorem OH (hc:X.calm=true):y_ X (.builtin "min") (λ xs H Q=>∃ i j,xs=[.int i,.int j]/\Q (.int (if j<i then j else i)) H):=by
 intro pins s σ H xs us Q I r h;obtain⟨i,j,rfl,q⟩:=h;obtain⟨u,w',rfl,⟨t,rfl⟩,⟨t',rfl⟩⟩:=vals2 r;refine min_two_ints (I.ok.hd hc) λ h' tk k=>⟨_,H,I.kept k,?_,q⟩;by_cases hj:j<i
 .rw[if_pos hj,if_pos hj];exact⟨_,rfl⟩
 .rw[if_neg hj,if_neg hj];exact⟨_,rfl⟩
theorem OP:y_ X (.type "int") (λ xs H Q=>(∃ i,xs=[.int i]/\Q (.int i) H)\/∃ k,xs=[.bl k]/\Q (.int (if k then 1 else 0)) H):=by
 intro pins s σ H xs us Q I r h;rcases h with ⟨i,rfl,q⟩ | ⟨k,rfl,q⟩
 .obtain⟨u,rfl,t,rfl⟩:=vals1 r;exact call_int_int ⟨.int i,H,I,⟨_,rfl⟩,q⟩
 .obtain⟨u,rfl,r1⟩:=vals1 r;cases r1;exact call_int_bool ⟨.int (if k then 1 else 0),H,I.tok _,⟨_,rfl⟩,q⟩
end
end L2
namespace L2
open PySem PySem.Spec PyProof.Rows
section
variable {prog:Program}{w:World}{A:Around}{E:Value->Shared->Prop}{s:Shared}{K:PySem.W.Frag}{x dx C f:Addr}{mA:Str->Option Value}{name:Str}{v:Value}
end
theorem tm.some_of {v:V}{o:Option Value}(r:tm (some v) o):∃ u,o=some u/\RelV v u:=by
 cases o with
 | none=>exact (show False from r).elim
 | some u=>exact⟨u,rfl,r⟩
section
variable {P:Program}{w:World}{H H':Hp}{h h':Heap}{a C dx:Addr}{fs fs':List (Str×V)}
end
section
variable {X:Cx}{pins:List (Addr×Obj)}{σ:St}{H:Hp}{s:Shared}{a C dx:Addr}{fs:List (Str×V)}{f:Str}{v:V}{A:Around}{E:Value->Shared->Prop}
end
section
variable {X:Cx}{o e value:Expr}{f:Str}{pos pos' tpos:Pos}{ta tv:TE}
end
section
variable {X:Cx}{pins:List (Addr×Obj)}{σ:St}{H:Hp}{s:Shared}{A:Around}{E:Value->Shared->Prop}{Q:Value->Shared->Prop}{c:Value}{b:Bool}
end
end L2
namespace L2
open PySem PySem.Spec PyProof.Rows
structure yS (k:Nat) (A:Around):Prop where
 hd:A.handled=none
 dp:A.depth+3*k+5<recursionLimit
 un:A.units+16*k+200<cLine
theorem yS.mono {j k:Nat}{A:Around}(r:yS k A) (h:j<=k):yS j A:=⟨r.hd,by have:=r.dp;omega,by have:=r.un;omega⟩
theorem yS.deeper {k:Nat}{A:Around}(r:yS (k+1) A) (env:Env):yS k (A.deeper env):=
 ⟨r.hd,by have:=r.dp;show A.depth+1+3*k+5<_;omega,by have:=r.un;show A.units+3+16*k+200<_;omega⟩
theorem yS.depth {k:Nat}{A:Around}(r:yS k A):A.depth<recursionLimit:=by have:=r.dp;omega
theorem yS.units {k:Nat}{A:Around}(r:yS k A):A.units+64<cLine:=by have:=r.un;omega
def iy:TA:=λ _ H Q=>Q [] H
def i0 (ta:TE) (tr:TA):TA:=fun σ H Q=>ta σ H λ x H1=>tr σ H1 λ xs H2=>Q (x::xs) H2
section
variable {X:Cx}{e:Expr}{es:List Expr}{te:TE}{t:TA}{pos:Pos}
theorem o6:PA X [] iy:=λ _ _ _ _ H Q I h=>Calls.spliced_nil ⟨[],H,I,.nil,h⟩
theorem qY (ha:PE X e te) (hr:PA X es t) (hs:starEach (e::es) X.env=(false,eval e X.env)::starEach es X.env:=by rfl):PA X (e::es) (i0 te t):=by
 intro pos pins s σ H Q I h;rw[hs];show wpAny _ _ (spliced ((false,eval e X.env)::backTo pos (starEach es X.env))) _ _ s;refine Calls.spliced_cons (zQ (ha pins s σ H _ I h) λ u s1 ⟨x,H1,I1,r1,q1⟩=>?_);exact zQ (hr pos pins s1 σ H1 _ I1 q1) λ us s2 ⟨xs,H2,I2,r2,q2⟩=>⟨x::xs,H2,I2,.cons r1 r2,q2⟩
def WR (t:TA):TE:=fun σ H Q=>t σ H λ xs H1=>xs.length<=sizeLine/\∀ p,H1 p=none->Q (.ref p) (upd H1 p (.tup xs))
def Vd (t:TA):TE:=fun σ H Q=>t σ H λ xs H1=>xs.length<=sizeLine/\∀ p,H1 p=none->Q (.ref p) (upd H1 p (.lst xs))
theorem UR {x1} (h:PA X es t):PE X (.Tuple es x1 pos) (WR t):=by
 intro pins s σ H Q I hq;refine wpAny_Tuple_spliced (zQ (h pos pins s σ H _ I hq) λ us s1 ⟨xs,H1,I1,r,z,q⟩=>⟨by rw[<- r.length];exact z,?_⟩);have hf:H1 s1.heap.objs.size=none:=I1.zJ.fresh (Nat.le_refl _);refine⟨.ref s1.heap.objs.size,upd H1 s1.heap.objs.size (.tup xs),I1.laid (t':=s1.toks) (λ b u e=>zHp _ e) (Nat.le_refl _) ?_,rfl,q _ hf⟩;exact⟨z,us,r,⟨_,Heap.get?_push_size _ rfl,rfl,_,rfl⟩⟩
theorem UZ (h:PA X es t):PE X (.List es pos) (Vd t):=by
 intro pins s σ H Q I hq;refine wpAny_List_spliced (zQ (h pos pins s σ H _ I hq) λ us s1 ⟨xs,H1,I1,r,z,q⟩=>⟨by rw[<- r.length];exact z,?_⟩);have hf:H1 s1.heap.objs.size=none:=I1.zJ.fresh (Nat.le_refl _);refine⟨.ref s1.heap.objs.size,upd H1 s1.heap.objs.size (.lst xs),I1.laid (t':=s1.toks) (λ b u e=>zHp _ e) (Nat.le_refl _) ?_,rfl,q _ hf⟩;exact⟨z,us,0,r,Heap.get?_push_size _ rfl⟩
end
abbrev Sp:=List V->Hp->VK->XK->Prop
abbrev tX:=List Env->Hp->Shared->XK->Value->Shared->Prop
structure j_ (P:Program) (w:World) (K:PySem.W.Frag) (mg:Str->Option Value) (base:Heap) (A:Around) (outer:List Env) (s:Shared) (H:Hp):Prop where
 frames:A.frames=some outer
 mod:Mod K mg base
 bs:∀ b o,base.get? b=some o->s.heap.get? b=some o/\H b=none
 pF:base.objs.size<=s.heap.objs.size
 tM:s.heap.FunFrames base outer
 oP:∀ b∈ux outer,H b=none
 zJ:x8 P w H s.heap
 bare:AllBare s.gens
def CE (outer:List Env) (P:Program) (w:World) (H:Hp) (s:Shared) (Q:VK) (u:Value) (s':Shared):Prop:=
 ∃ v H',s'.os=s.os/\AllBare s'.gens/\Un (ux outer) [] H H' s.heap s'.heap/\x8 P w H' s'.heap/\RelV v u/\Q v H'
def CR (CX:tX) (outer:List Env) (P:Program) (w:World) (H:Hp) (s:Shared) (Q:VK) (E:XK) (r:Result) (s':Shared):Prop:=
 match r with
 | .ok (.ret u)=>CE outer P w H s Q u s'
 | .ok _=>False
 | .error e=>CX outer H s E e s'
structure tw (P:Program) (w:World) (K:PySem.W.Frag) (mg:Str->Option Value) (base:Heap) (CX:tX) (k:Nat) (f:Addr) (fd:FuncData) (ps:List Str) (sp:Sp):Prop where
 len:∀ vs H Q E,sp vs H Q E->vs.length=ps.length
 run:∀ (A:Around) (outer:List Env) (s:Shared) (H:Hp) (args:Args) (us:List Value) (vs:List V) (Q:VK) (E:XK),yS k A->j_ P w K mg base A outer s H->BindsTo s fd args (ps.zip us)->Vals vs us->sp vs H Q E->
  codeAny (model P w) A (.call (.ref f) args) (CR CX outer P w H s Q E) s
section
variable {X:Cx}{pins:List (Addr×Obj)}{σ:St}{H:Hp}{s s':Shared}
theorem Inv.Px (I:Inv X pins σ H s):j_ X.prog X.w X.K X.mg X.base X.A X.stack s H:=
 ⟨I.ok.frames,I.ok.mod,I.bs,Nat.le_trans I.ok.pF I.sz,I.stack,I.cG,I.zJ,I.bare⟩
theorem Inv.after {Q:VK}{u:Value}(I:Inv X pins σ H s) (h:CE X.stack X.prog X.w H s Q u s'):EP X pins σ Q u s':=by
 obtain⟨v,H',os,bare,un,zJ,r,q⟩:=h;obtain⟨hh,g,d,t,os'⟩:=s';obtain rfl:os'=s.os:=os;exact⟨v,H',I.call (h':=hh) (g':=g) (d':=d) (t':=t) (ch:=[]) un zJ bare (λ b z=>absurd z (by simp)),r,q⟩
end
def cE (sp:Sp) (dvs:List V) (E:XK) (t:TA):TE:=fun σ H Q=>t σ H λ vs H1=>sp (vs++dvs) H1 Q E
def Binds (K:PySem.W.Frag) (fd:FuncData) (ps:List Str) (ds:List Value):Prop:=
 ∀ (s:Shared) (us:List Value),K.In s.heap->(us++ds).length=ps.length->BindsTo s fd ⟨us,[]⟩ (ps.zip (us++ds))
theorem Binds.all {K:PySem.W.Frag}{fd:FuncData}{ps:List Str}(h:∀ us:List Value,us.length=ps.length->bindArgs fd ⟨us,[]⟩=pure (ps.zip us)):Binds K fd ps []:=λ s us _ hl=>by
 rw[List.append_nil] at hl ⊢;exact .of_eq (h us hl)
def Passes (CX:tX) (X:Cx) (E:XK):Prop:=∀ (pins:List (Addr×Obj)) (σ:St) (H:Hp) (s:Shared) (e:Value) (s':Shared),Inv X pins σ H s->CX X.stack H s E e s'->X.xe e s'
section
variable {X:Cx}{CX:tX}{k:Nat}{f C:Addr}{fd:FuncData}{ps:List Str}{sp:Sp}{dvs:List V}{ds:List Value}{E:XK}{x m:Str}{p pos apos:Pos}{e o:Expr}{es:List Expr}{ta:TE}{t:TA}
theorem VR {pins:List (Addr×Obj)}{σ:St}{H:Hp}{s:Shared}{Q:VK}{us:List Value}{vs:List V}(F:tw X.prog X.w X.K X.mg X.base CX k f fd ps sp) (hr:yS k X.A) (hb:Binds X.K fd ps ds) (hd:Vals dvs ds) (hx:Passes CX X E)
  (I:Inv X pins σ H s) (r:Vals vs us) (h:sp (vs++dvs) H Q E):wpAny (model X.prog X.w) X.A (call (.ref f) us) (EP X pins σ Q) X.xe s:=by
 have r2:Vals (vs++dvs) (us++ds):=r.append hd;have hl:(us++ds).length=ps.length:=by rw[<- r2.length];exact F.len _ _ _ _ h
 refine wpAny_call (codeAny_mono (F.run X.A X.stack s H ⟨us,[]⟩ (us++ds) (vs++dvs) Q E hr I.Px (hb s us I.uv hl) r2 h) λ r s' hq=>?_);cases r with
 | error e=>exact hx pins σ H s e s' I hq
 | ok fl=>
  cases fl with
  | ret u=>exact I.after hq
  | next=>exact False.elim hq
  | brk=>exact False.elim hq
  | cont=>exact False.elim hq
theorem Tj (F:tw X.prog X.w X.K X.mg X.base CX k f fd ps sp) (hr:yS k X.A) (hg:Gl X x) (hm:X.mg x=some (.ref f)) (hk:PySem.W.keepIn X.K (.ref f)=true) (hb:Binds X.K fd ps ds) (hd:Vals dvs ds) (hx:Passes CX X E)
  (ha:PA X (e::es) t) (hdb:(x == ("__debug__":Str))=false:=by decide) (he:starEach (e::es) X.env=(false,eval e X.env)::starEach es X.env:=by rfl) (hpl:(backTo pos (starEach es X.env)).any (·.1)=false:=by rfl):
  PE X (.Call (.Name x p) (e::es) [] pos) (cE sp dvs E t):=by
 intro pins s σ H Q I h;refine wpAny_Call_Name_kw (Za I hg hm ?_ hdb);refine PySem.W.callWith_K (h₀:=X.base) I.ok.mod.fq hk (zQ (ha pos pins s σ H _ I h) λ us s1 ⟨vs,H1,I1,r,q⟩=>⟨I1.uv,?_⟩) he hpl;exact VR F hr hb hd hx I1 r q
end
section
variable {X:Cx}{CX:tX}{k:Nat}{f C:Addr}{fd:FuncData}{ps ks:List Str}{sp:Sp}{E:XK}{x m:Str}{p pos apos kpos:Pos}{e o:Expr}{es:List Expr}{kws:List Keyword}{te ta:TE}{t tk:TA}{nm:Option Str}
variable {g:List Value->List Value->List Value}{gV:List V->List V->List V}
end
structure yr (N P:List Str) (sc:Scope):Prop where
 kind:sc.kind=.function
 co:sc.isCoroutine=false
 gen:sc.isGenerator=false
 nd:N.Nodup
 pre:N.take P.length=P
 par:∀ x∈P,sc.names.lookup x=some .local\/sc.names.lookup x=some .cell
 RF:∀ y∈sc.names,y.2≠.free
theorem YI {kindOf:Str->Option NameKind}{x:Str}:∀ {binds:List (Str×Value)}{m:Str->Option Value},(∀ v,(x,v)∉binds)->bindL kindOf binds m x=m x
 | [],_,_=>rfl
 | (n,v)::r,m,h=>by
  unfold bindL;rw[YI λ w hw=>h w (zMo _ hw)];split
  .have:x≠n:=by rintro rfl;exact h v zMc
   simp[this]
  .rfl
theorem YK {kindOf:Str->Option NameKind}{x:Str}:∀ {binds:List (Str×Value)}{m:Str->Option Value},(∀ v,(x,v)∉binds)->bindC kindOf binds m x=m x
 | [],_,_=>rfl
 | (n,v)::r,m,h=>by
  unfold bindC;rw[YK λ w hw=>h w (zMo _ hw)];split
  .rfl
  .have:x≠n:=by rintro rfl;exact h v zMc
   simp[this]
theorem YJ {kindOf:Str->Option NameKind}{x:Str}{v:Value}:∀ {P:List Str}{vs:List Value}{i:Nat}{m:Str->Option Value},P.Nodup->P[i]?=some x->vs[i]?=some v->kindOf x=some .local->
  bindL kindOf (P.zip vs) m x=some v
 | [],_,_,_,_,h,_,_=>by simp at h
 | _::_,[],_,_,_,_,h,_=>by simp at h
 | p::P,w::vs,0,m,nd,h1,h2,hk=>by
  simp at h1 h2;subst h1;subst h2;show bindL kindOf ((p,w)::P.zip vs) m p=_;unfold bindL;rw[YI λ v hv=>(List.nodup_cons.mp nd).1 (List.of_mem_zip hv).1,if_pos hk];simp
 | p::P,w::vs,i+1,m,nd,h1,h2,hk=>by
  show bindL kindOf ((p,w)::P.zip vs) m x=_;unfold bindL;exact YJ (i:=i) (List.nodup_cons.mp nd).2 (by simpa using h1) (by simpa using h2) hk
theorem YL {kindOf:Str->Option NameKind}{x:Str}{v:Value}:∀ {P:List Str}{vs:List Value}{i:Nat}{m:Str->Option Value},P.Nodup->P[i]?=some x->vs[i]?=some v->kindOf x≠some .local->
  bindC kindOf (P.zip vs) m x=some v
 | [],_,_,_,_,h,_,_=>by simp at h
 | _::_,[],_,_,_,_,h,_=>by simp at h
 | p::P,w::vs,0,m,nd,h1,h2,hk=>by
  simp at h1 h2;subst h1;subst h2;show bindC kindOf ((p,w)::P.zip vs) m p=_;unfold bindC;rw[YK λ v hv=>(List.nodup_cons.mp nd).1 (List.of_mem_zip hv).1,if_neg hk];simp
 | p::P,w::vs,i+1,m,nd,h1,h2,hk=>by
  show bindC kindOf ((p,w)::P.zip vs) m x=_;unfold bindC;exact YL (i:=i) (List.nodup_cons.mp nd).2 (by simpa using h1) (by simpa using h2) hk
noncomputable def start (N:List Str) (vs:List V):St:=vs.map some++List.replicate (N.length-vs.length) none
noncomputable def sJ (CX:tX) (P:Program) (w:World) (K:PySem.W.Frag) (mg:Str->Option Value) (base:Heap) (N:List Str) (qual:Str) (scope:Scope) (f:Addr) (cd:Value) (A:Around) (outer:List Env) (s:Shared) (H:Hp) (E:XK):Cx where
 prog:=P
 w:=w
 K:=K
 mg:=mg
 base:=base
 A:=A.deeper (envOfC qual scope s.heap.objs.size f cd)
 N:=N
 s₀:=s
 H₀:=H
 env:=envOfC qual scope s.heap.objs.size f cd
 outer:=outer
 stack:=envOfC qual scope s.heap.objs.size f cd::outer
 ex:=[]
 calm:=true
 fn:=λ _=>true
 pn:=[]
 xe:=λ e s'=>wpAny (model P w) (A.deeper (envOfC qual scope s.heap.objs.size f cd)) (leaving (envOfC qual scope s.heap.objs.size f cd) e) (λ _ s''=>CX outer H s E e s'') (λ e' s''=>CX outer H s E e' s'') s'
theorem YB {sc:Scope}{n:Nat}{x:Str}(h:sc.names.lookup x=some .cell):∃ c,(cellsFrom n sc.names []).lookup x=some c:=by
 have q:=PySem.W.cellsFrom_some sc.names n [] (.inl h);exact Option.isSome_iff_exists.mp q
theorem QC {CX:tX}{P:Program}{w:World}{K:PySem.W.Frag}{mg:Str->Option Value}{base:Heap}{N ps:List Str}{qual:Str}{scope:Scope}{f:Addr}{cd:Value}{A:Around}{outer:List Env}{s s1:Shared}{H:Hp}{E:XK}{us:List Value}{vs:List V}
  (S:yr N ps scope) (hd:A.handled=none) (e0:j_ P w K mg base A outer s H) (hl:vs.length=ps.length) (r:Vals vs us)
  (x:InCallC s s.heap.objs.size (bindL (envOfC qual scope s.heap.objs.size f cd).kindOf (ps.zip us) λ _=>none) (cellsFrom (s.heap.objs.size+1) scope.names []) (bindC (envOfC qual scope s.heap.objs.size f cd).kindOf (ps.zip us) λ _=>none) s1):
  Inv (sJ CX P w K mg base N qual scope f cd A outer s H E) [] (start N vs) H s1:=by
 have hpl:ps.length<=N.length:=by have:=congrArg List.length S.pre;rw[List.length_take] at this;omega
 obtain⟨h1,tk,rfl,hk⟩:=x.done;have noA:∀ b:Addr,b∉(sJ CX P w K mg base N qual scope f cd A outer s H E).ex:=λ b z=>absurd (show b∈([]:List Addr) from z) (by simp);refine⟨⟨e0.mod,S.kind,rfl,rfl,Nat.le_refl _,λ y z c h1 h2=>?_,λ y hy=>?_,λ y c _ h=>?_,λ _=>hd,Around.frames_deeper e0.frames,.inr ⟨rfl,rfl⟩,λ b z=>absurd z (noA b),e0.bs,e0.pF,λ b _ _=>noA b,λ b z=>absurd z (noA b),e0.tM,e0.oP⟩,
  rfl,e0.bare,Un.kept hk,⟨_,x.toInCall.ns,λ i y v h1 h2 h3=>?_⟩,λ y c h=>⟨_,x.cell y c h⟩,e0.zJ.fresh (Nat.le_refl _),λ y c h=>?_,λ p hp=>absurd (show p∈([]:List (Addr×Obj)) from hp) (by simp),e0.zJ.kept hk,?_⟩
 .exact name_of_addr x.apart (PySem.mem_of_lookup h1) (PySem.mem_of_lookup h2)
 .have hy:scope.names.lookup y=some .cell\/scope.names.lookup y=some .free:=hy;rcases hy with hy | hy
  .exact YB hy
  .exact absurd rfl (S.RF _ (PySem.mem_of_lookup hy))
 .exact Nat.le_of_lt (x.above y c (PySem.mem_of_lookup h))
 .have hi:i<vs.length:=by
   unfold start at h2;by_cases hi:i<vs.length
   .exact hi
   .rw[List.getElem?_append_right (by simpa using hi)] at h2;rw[List.getElem?_replicate] at h2;split at h2 <;> cases h2
  have ha:vs[i]?=some v:=by
   unfold start at h2;rw[List.getElem?_append_left (by simpa using hi),List.getElem?_map] at h2;cases e:vs[i]? with
   | none=>rw[e] at h2;cases h2
   | some a=>rw[e] at h2;cases h2;rfl
  obtain⟨u,hu,rv⟩:=r.get ha;have hp:ps[i]?=some y:=by
   rw[<- S.pre,List.getElem?_take_of_lt (by omega)];exact h1
  have ndP:ps.Nodup:=by rw[<- S.pre];exact S.nd.sublist (List.take_sublist _ _)
  refine⟨u,rv,?_⟩;rcases S.par y (List.mem_of_getElem? hp) with k | k
  .exact .inl ⟨k,YJ ndP hp hu k⟩
  .obtain⟨c,e⟩:=YB (n:=s.heap.objs.size+1) k;refine .inr ⟨.inl k,c,e,?_⟩;have q:=x.cell y c e;rw[YL ndP hp hu (by show scope.names.lookup y≠_;rw[k];decide)] at q;exact q
 .exact e0.zJ.fresh (Nat.le_of_lt (x.above y c (PySem.mem_of_lookup h)))
 .unfold start;show _=N.length;rw[List.length_append,List.length_map,List.length_replicate];omega
theorem Pf {CX:tX}{P:Program}{w:World}{K:PySem.W.Frag}{mg:Str->Option Value}{base:Heap}{k:Nat}{f:Addr}{name qual:Str}{params:Arguments}{body:List Stmt}{scope:Scope}{dV kV doc pm cdv ct oc:Value}{an od:Option Addr}
  {osl:Array (Option Value)}{N ps:List Str}{sp:Sp}(lk:K.lookup f=some ⟨oc,od,.func (PySem.W.fnOf name qual params body scope dV kV doc pm an cdv ct),osl⟩) (hcd:PySem.W.codeIn K cdv qual=true) (S:yr N ps scope)
  (len:∀ vs H Q E,sp vs H Q E->vs.length=ps.length)
  (hbody:∀ (A:Around) (outer:List Env) (s:Shared) (H:Hp) (vs:List V) (Q:VK) (E:XK),yS k (A.deeper (envOfC qual scope s.heap.objs.size f cdv))->sp vs H Q E->
   ∃ t,wR (sJ CX P w K mg base N qual scope f cdv A outer s H E) body t/\t { nx:=λ _ H'=>Q .zl H',rt:=Q } (start N vs) H):
  tw P w K mg base CX (k+1) f (PySem.W.fnOf name qual params body scope dV kV doc pm an cdv ct) ps sp:=by
 refine⟨len,λ A outer s H args us vs Q E hr e0 hb r hsp=>?_⟩;have hl:=len _ _ _ _ hsp;have KX:K.In s.heap:=e0.mod.fq.keeps λ b o e=>(e0.bs b o e).1;have lim:s.heap.NoLimit:=e0.mod.nolimit.keeps λ b o e=>(e0.bs b o e).1;have hkind:∀ y∈ps.zip us,scope.names.lookup y.1=some .local\/(scope.names.lookup y.1=some .cell/\((cellsFrom (s.heap.objs.size+1) scope.names []).lookup y.1).isSome=true):=λ⟨n,v⟩ hy=>by
  rcases S.par n (List.of_mem_zip hy).1 with q | q
  .exact .inl q
  .exact .inr ⟨q,PySem.W.cellsFrom_some _ _ _ (.inl q)⟩
 refine codeAny_call_function hr.depth (KX _ _ lk) rfl S.co S.gen rfl (PySem.W.codeRec_of KX hcd) (hb _ _ _ _ ?_);refine wpAny_newFunctionEnv_cells S.kind hkind λ env he s1 x=>?_;subst he;refine⟨lim.keeps x.toInCall.keep,codeAny_func ?_⟩;obtain⟨t,ht,hq⟩:=hbody A outer s H vs Q E (hr.deeper _) hsp;have I:Inv (sJ CX P w K mg base N qual scope f cdv A outer s H E) [] (start N vs) H s1:=QC S hr.hd e0 hl r x;refine wpAny_mono (ht [] s1 (start N vs) H _ I hq) (λ fl s' hs=>?_) λ e s' hs=>hs;have fin:∀ {σ':St}{H':Hp}{v:V}{u:Value},Inv (sJ CX P w K mg base N qual scope f cdv A outer s H E) [] σ' H' s'->RelV v u->Q v H'->CE outer P w H s Q u s':=
  λ{σ' H' v u} J rv q=>⟨v,H',J.os,J.bare,J.base,J.zJ,rv,q⟩
 cases fl with
 | ret u=>
  obtain⟨v,σ',H',J,rv,q⟩:=hs;exact fin J rv q
 | next=>
  obtain⟨σ',H',J,q⟩:=hs;exact fin (v:=V.zl) (u:=Value.none) J rfl q
 | brk=>
  obtain⟨_,_,_,q⟩:=hs;exact False.elim q
 | cont=>
  obtain⟨_,_,_,q⟩:=hs;exact False.elim q
end L2
namespace L2
open PySem PySem.Spec PyProof.Rows
section
variable {X:Cx}{x:Str}{p pos:Pos}{e:Expr}{es:List Expr}{t:TA}{id T:String}{r:List V->Hp->VK->Prop}
def kd (r:List V->Hp->VK->Prop) (t:TA):TE:=fun σ H Q=>t σ H λ vs H1=>r vs H1 Q
theorem rj (hc:y_ X (.builtin id) r) (hg:Gl X x) (hm:X.mg x=none) (hv:bootBuiltins x=some (.builtin id)) (ha:PA X (e::es) t) (hn:x≠"__name__":=by decide) (hdb:(x == ("__debug__":Str))=false:=by decide)
  (he:starEach (e::es) X.env=(false,eval e X.env)::starEach es X.env:=by rfl) (hpl:(backTo pos (starEach es X.env)).any (·.1)=false:=by rfl):PE X (.Call (.Name x p) (e::es) [] pos) (kd r t):=by
 intro pins s σ H Q I h;refine wpAny_Call_Name_kw (mK I hg hm hv ?_ hn hdb);exact PyProof.Rows.callWith_builtin1 (zQ (ha pos pins s σ H _ I h) λ us s1 ⟨vs,H1,I1,r1,q1⟩=>hc pins s1 σ H1 vs us Q I1 r1 q1) he hpl
theorem ot (hc:y_ X (.type T) r) (hg:Gl X x) (hm:X.mg x=none) (hv:bootBuiltins x=some (.type T)) (ha:PA X (e::es) t) (hn:x≠"__name__":=by decide) (hdb:(x == ("__debug__":Str))=false:=by decide)
  (he:starEach (e::es) X.env=(false,eval e X.env)::starEach es X.env:=by rfl) (hpl:(backTo pos (starEach es X.env)).any (·.1)=false:=by rfl):PE X (.Call (.Name x p) (e::es) [] pos) (kd r t):=by
 intro pins s σ H Q I h;refine wpAny_Call_Name_kw (mK I hg hm hv ?_ hn hdb);exact PyProof.Rows.callWith_type1 (zQ (ha pos pins s σ H _ I h) λ us s1 ⟨vs,H1,I1,r1,q1⟩=>hc pins s1 σ H1 vs us Q I1 r1 q1) he hpl
end
end L2
namespace HT
open PySem PyProof.Rows
noncomputable def lexLt:List Int->List Int->Bool
 | [],[]=>false
 | [],_::_=>true
 | _::_,[]=>false
 | x::xs,y::ys=>if x=y then lexLt xs ys else decide (x<y)
theorem qm (x y:Int) (xs ys:List Int):lexLt (x::xs) (y::ys)=if x=y then lexLt xs ys else decide (x<y):=rfl
theorem Qf:lexLt [] []=false:=rfl
theorem Qg (y:Int) (ys:List Int):lexLt [] (y::ys)=true:=rfl
theorem Qh (x:Int) (xs:List Int):lexLt (x::xs) []=false:=rfl
theorem Pw (A:Around) (s:Shared) (a:Int) (t:Tok) (c:Int) (u:Tok):∃ e,SeqAt.EqAt A s (.int a t) (.int c u) e/\(e=true↔a=c):=
 ⟨(a == c),SeqAt.EqAt.int_int a t c u,by simp⟩
theorem V_ (A:Around) (s:Shared) (a:Int) (t:Tok) (c:Int) (u:Tok) (prog:Program) (w:World) (E:Value->Shared->Prop) (Q:Value->Shared->Prop) (h:Q (.bool (decide (a<c))) s):
  wpAny (model prog w) A (richCompare .Lt (.int a t) (.int c u)) Q E s:=
 (PyProof.Rows.lt_int h:wpAny (model prog w) A (compareOp .Lt (.int a t) (.int c u)) Q E s)
section
open PySem.SeqAt
open PySem.AutoSeq1 (wpAny_loadPart')
open PySem.MeetsSeq PySem.MeetsSeq2 PySem.MeetsSeq3
theorem WK (l b:Addr) (items items2:Array Value) (n n2:Nat) (dd dd2:Option Addr) (sl sl2:Array (Option Value)) (ns ms:List Int) (hi:IntsAre items.toList ns) (hj:IntsAre items2.toList ms):
  Meets (Builtin.«tuple.__lt__» ⟨[.ref l,.ref b],[]⟩)
   (λ _ R s=>s.heap.get? l=some { cls:=.type "tuple",dict:=dd,data:=.seq items n,slots:=sl }/\s.heap.get? b=some { cls:=.type "tuple",dict:=dd2,data:=.seq items2 n2,slots:=sl2 }/\
    R (.ok (.ret (.bool (lexLt ns ms)))) s):=
 .of_wp λ prog w A R s h=>by
  obtain⟨hp,g,d,tk,os⟩:=s;obtain⟨hl,hb,h⟩:=h;have f2:=AutoSeq1.sub_tuple_tuple;have z1:items.size=ns.length:=by rw[<- hi.length];simp
  have z2:items2.size=ms.length:=by rw[<- hj.length];simp
  wp_walk using wpAny_loadPart' hl,wpAny_loadPart' hb,wpAny_forIn_list _ (λ rest b s'=>b.1=none/\s'=⟨hp,g,d,tk,os⟩/\∃ (vs ws:List Value) (ns' ms':List Int),rest=vs.zip ws/\
   IntsAre vs ns'/\IntsAre ws ms'/\ns'.length+items2.size=ms'.length+items.size/\R (.ok (.ret (.bool (lexLt ns' ms')))) ⟨hp,g,d,tk,os⟩) _
  case turn=>
   rintro⟨y,x⟩ rest b s' ⟨hb',rfl,vs,ws,ns',ms',hz,hvi,hwi,hlen,hR⟩;cases hvi with
   | nil=>rw[List.zip_nil_left] at hz;cases hz
   | cons a t hvi'=>
    cases hwi with
    | nil=>rw[List.zip_nil_right] at hz;cases hz
    | cons c u hwi'=>
     rw[List.zip_cons_cons] at hz
     injection hz with hyx hrest
     injection hyx with hy hx
     subst hy hx;rw[qm] at hR;simp only[List.length_cons] at hlen;obtain⟨e,he,hiff⟩:=Pw A.in1 ⟨hp,g,d,tk,os⟩ a t c u;refine zWb (he prog w _ _ ?_);cases e with
     | true=>
      rw[if_pos (hiff.mp rfl)] at hR
      wp_walk
      exact⟨rfl,rfl,_,_,_,_,hrest,hvi',hwi',by omega,hR⟩
     | false=>
      rw[if_neg (λ q=>absurd (hiff.mpr q) Bool.false_ne_true)] at hR;have hri:=V_ A.in1 ⟨hp,g,d,tk,os⟩ a t c u prog w
      wp_walk using hri
      exact⟨_,rfl,by simpa using hR⟩
  case fin=>
   rintro⟨b1,b2⟩ s' ⟨hb',rfl,vs,ws,ns',ms',hz,hvi,hwi,hlen,hR⟩;simp only at hb';subst hb';have hv:lexLt ns' ms'=decide (items.size<items2.size):=by
    cases hvi with
    | nil=>
     cases hwi with
     | nil=>
      simp only[List.length_nil] at hlen;rw[Qf];exact (decide_eq_false (by omega)).symm
     | cons c u hw=>
      simp only[List.length_nil,List.length_cons] at hlen;rw[Qg];exact (decide_eq_true (by omega)).symm
    | cons a t hv=>
     cases hwi with
     | nil=>
      simp only[List.length_nil,List.length_cons] at hlen;rw[Qh];exact (decide_eq_false (by omega)).symm
     | cons c u hw=>
      rw[List.zip_cons_cons] at hz;cases hz
   rw[hv] at hR
   wp_walk
   exact⟨_,rfl,by simpa [Builtin.Tuple.tupleCompareSizes] using hR⟩
  case h=>
   exact⟨rfl,rfl,items.toList,items2.toList,ns,ms,rfl,hi,hj,by omega,h⟩
end
section
variable {prog:Program}{w:World}{A:Around}{E:Value->Shared->Prop}{s:Shared}
theorem RZ {l b:Addr}{items items2:Array Value}{ns ms:List Int}{Q:Value->Shared->Prop}(hl:IsTup s.heap l items) (hb:IsTup s.heap b items2) (hi:IntsAre items.toList ns) (hj:IntsAre items2.toList ms)
  (hu:A.units<cLine) (h:Q (.bool (lexLt ns ms)) s):wpAny (model prog w) A (compareOp .Lt (.ref l) (.ref b)) Q E s:=by
 obtain⟨⟨cls,dd,data,sl⟩,ho,hc,n,hd⟩:=id hl;obtain⟨⟨cls2,dd2,data2,sl2⟩,ho2,hc2,n2,hd2⟩:=id hb;simp only at hc hd hc2 hd2;subst hc hd hc2 hd2;exact richCompare_meets_room (op:=.Lt) ⟨_,ho,rfl⟩ ⟨_,ho2,rfl⟩ PySem.F.slot_tuple_lt PySem.F.entry_tuple_lt (PySem.F.args_tuple_lt_2 _ _) (WK l b items items2 n n2 dd dd2 sl sl2 ns ms hi hj)
  ⟨ho,ho2,show Value.bool (lexLt ns ms)≠Value.notImplemented/\Q (.bool (lexLt ns ms)) s from ⟨(λ x=>nomatch x),h⟩⟩ hu
theorem O5 {t b:Addr}{vs ws:List Value}{Q:Value->Shared->Prop}(ht:IsTup s.heap t vs.toArray) (hb:IsTup s.heap b ws.toArray) (hv:vs≠[])
  (h1:ws=[]->Q (.ref t) s) (h2:ws≠[]->Q (.ref s.heap.objs.size) { s with heap:=s.heap.push { cls:=.type "tuple",data:=.seq (vs++ws).toArray } })
  (hsz:vs.length+ws.length<=sizeLine):wpAny (model prog w) A (binaryOp .Add (.ref t) (.ref b)) Q E s:=by
 obtain⟨⟨cls,dd,data,sl⟩,ho,hc,n,hd⟩:=id ht;obtain⟨⟨cls2,dd2,data2,sl2⟩,ho2,hc2,n2,hd2⟩:=id hb;simp only at hc hd hc2 hd2;subst hc hd hc2 hd2;have e:vs.toArray++ws.toArray=(vs++ws).toArray:=by simp
 by_cases hw:ws=[]
 .exact concat_meets ⟨_,ho,rfl⟩ ⟨_,ho2,rfl⟩ noFill_tuple_add seq_tuple_add PySem.F.slot_tuple_add PySem.F.entry_tuple_add (PySem.F.args_tuple_add_2 _ _)
   (tuple_addW1 t b vs.toArray ws.toArray n n2 dd dd2 sl sl2 (by simpa using hv) (by simp[hw])) ⟨ho,ho2,h1 hw⟩
 .refine concat_meets ⟨_,ho,rfl⟩ ⟨_,ho2,rfl⟩ noFill_tuple_add seq_tuple_add PySem.F.slot_tuple_add PySem.F.entry_tuple_add (PySem.F.args_tuple_add_2 _ _)
   (tuple_addW2 t b vs.toArray ws.toArray n n2 dd dd2 sl sl2 (by simpa using hv) (by simpa using hw) (by rw[List.size_toArray,List.size_toArray];exact hsz)) ⟨ho,ho2,?_⟩
  rw[e];exact h2 hw
noncomputable def zU (n d:Nat):Option Int->Nat
 | none=>d
 | some v=>if v<0 then (v+(n:Int)).toNat else min v.toNat n
theorem VP (n d:Nat) (hd:d<=n) (o:Option Int):zU n d o<=n:=by
 cases o with
 | none=>exact hd
 | some v=>
  show (if v<0 then (v+(n:Int)).toNat else min v.toNat n)<=n;by_cases hv:v<0
  .rw[if_pos hv];omega
  .rw[if_neg hv];exact Nat.min_le_right _ _
theorem Yz (v:Int) (n d:Nat):(if v<0 then max (v+(n:Int)) 0 else min v (n:Int))=((zU n d (some v):Nat):Int):=by
 show (if v<0 then max (v+(n:Int)) 0 else min v (n:Int))=(((if v<0 then (v+(n:Int)).toNat else min v.toNat n):Nat):Int)
 by_cases hv:v<0
 .simp only[if_pos hv];omega
 .simp only[if_neg hv];omega
theorem Nm (lo hi:Option Int) (n:Nat):Builtin.Slice.sliceAdjust lo hi 1 (n:Int)=(((zU n 0 lo:Nat):Int),((zU n n hi:Nat):Int)):=by
 have h1:¬ ((1:Int)<0):=by omega
 unfold Builtin.Slice.sliceAdjust;simp only[h1,if_false];refine Prod.ext ?_ ?_
 .cases lo with
  | none=>rfl
  | some v=>exact Yz v n 0
 .cases hi with
  | none=>rfl
  | some v=>exact Yz v n n
theorem U9 (i j:Nat):Builtin.Slice.slicePlaces (i:Int) (j:Int) 1=j-i:=by
 unfold Builtin.Slice.slicePlaces;have h1:(1:Int)>0:=by omega
 simp only[h1,if_true,Int.ediv_one];split <;> omega
theorem cP {v:Value}{o:Option Int}{Q:Option Int->Shared->Prop}(p:IsPart v o) (h:Q o s):wpAny (model prog w) A (Builtin.Slice.slicePartIndex v) Q E s:=by
 cases p with
 | none=>exact slicePart_none h
 | int i t=>exact slicePart_int h
theorem cQ {sl:Addr}{vl vu:Value}{lo hi:Option Int}{n:Nat}{Q:Int×Int×Nat->Shared->Prop}(hs:s.heap.IsSliceOf sl vl vu .none) (pl:IsPart vl lo) (pu:IsPart vu hi)
  (h:Q (((zU n 0 lo:Nat):Int),1,zU n n hi-zU n 0 lo) s):wpAny (model prog w) A (Builtin.Slice.sliceApplied (.ref sl) (pure (n:Int))) Q E s:=by
 obtain⟨os,hos,hcs,hds⟩:=id hs;unfold Builtin.Slice.sliceApplied Builtin.Slice.sliceFields;refine zWb (zWb (wpAny_field hos hds (x:=vl) rfl (zWb (wpAny_field hos hds (x:=vu) rfl (zWb (wpAny_field hos hds (x:=.none) rfl (wpAny_pure ?_)))))));refine zWb (slicePart_none ?_);show wpAny _ _ (if ((1:Int) == 0)=true then _ else _) _ _ s;rw[if_neg (by decide)];refine zWb (cP pl (zWb (cP pu (zWb (wpAny_pure ?_)))));show wpAny _ _ (match Builtin.Slice.sliceAdjust lo hi 1 (n:Int) with | (lo,hi)=>pure (lo,(1:Int),Builtin.Slice.slicePlaces lo hi 1)) _ _ s;rw[Nm lo hi n];show wpAny _ _ (pure (((zU n 0 lo:Nat):Int),(1:Int),Builtin.Slice.slicePlaces ((zU n 0 lo:Nat):Int) ((zU n n hi:Nat):Int) 1)) _ _ s;rw[U9];exact wpAny_pure h
theorem UB (xs:Array Value) (i k:Nat):((List.range k).filterMap λ(m:Nat)=>xs[((i:Int)+(m:Int)*1).toNat]?).toArray=((xs.toList.drop i).take k).toArray:=by
 have e:(λ(m:Nat)=>xs[((i:Int)+(m:Int)*1).toNat]?)=λ m=>xs[i+m]?:=by
  funext m;have:((i:Int)+(m:Int)*1).toNat=i+m:=by omega
  rw[this]
 rw[e];have:=pick_run xs i k;rw[List.filterMap_map] at this;have e2:((λ x=>xs[x]?) ∘ λ x=>i+x)=λ m=>xs[i+m]?:=rfl;rw[e2] at this;rw[this]
theorem QX {t sl:Addr}{items:Array Value}{vl vu:Value}{lo hi:Option Int}{Q:Value->Shared->Prop}(ht:IsTup s.heap t items) (hs:s.heap.IsSliceOf sl vl vu .none) (pl:IsPart vl lo) (pu:IsPart vu hi)
  (hw:¬ (zU items.size 0 lo=0/\zU items.size items.size hi=items.size))
  (h:Q (.ref s.heap.objs.size) { s with heap:=s.heap.push { cls:=.type "tuple",data:=.seq ((items.toList.drop (zU items.size 0 lo)).take (zU items.size items.size hi-zU items.size 0 lo)).toArray } })
  (hsz:items.size<=sizeLine):wpAny (model prog w) A (getItem (.ref t) (.ref sl)) Q E s:=by
 have htake:sizeOk (.seq ((items.toList.drop (zU items.size 0 lo)).take (zU items.size items.size hi-zU items.size 0 lo)).toArray):=by
  show ((items.toList.drop (zU items.size 0 lo)).take (zU items.size items.size hi-zU items.size 0 lo)).toArray.size<=sizeLine;rw[List.size_toArray,List.length_take,List.length_drop,Array.length_toList];omega
 have hj:zU items.size items.size hi<=items.size:=VP _ _ (Nat.le_refl _) hi;obtain⟨os,hos,hcs,hds⟩:=id hs;have hTs:s.TypeIs (.ref sl) "slice":=⟨os,hos,hcs⟩
 unfold getItem
 try with_reducible refine wpAny_holding ?_
 first | refine zWb (wpAny_pure ?_) | skip
 refine zWb (wpAny_sequenceKey ht.typeIs (by decide) ?_);refine zWb (wpAny_callSpecial?_slot (name:=Str.ofString "__getitem__") ht.typeIs PyProof.Rows.slot_tuple_getitem
  (wpAny_call_entry PyProof.Rows.slot_tuple_getitem ht.typeIs entry_tuple_getitem ?_ (args_tuple_getitem _ _)))
 show wpAny _ _ (Builtin.Tuple.tupleItemsOf (.ref t) >>= _) _ _ s;refine zWb (tupleItemsOf_ ht ?_);refine zWb (wpAny_typeOf hTs ?_);rw[if_pos (by decide)];refine zWb (cQ hs pl pu ?_);have hno:¬ ((((zU items.size 0 lo:Nat):Int) == 0&&(1:Int) == 1&&(zU items.size items.size hi-zU items.size 0 lo) == items.size)=true):=by
  intro q;rw[Bool.and_eq_true,Bool.and_eq_true] at q;have q1:((zU items.size 0 lo:Nat):Int)=0:=eq_of_beq q.1.1;have q2:zU items.size items.size hi-zU items.size 0 lo=items.size:=eq_of_beq q.2;exact hw ⟨by omega,by omega⟩
 show wpAny _ _ (if (((zU items.size 0 lo:Nat):Int) == 0&&(1:Int) == 1&&(zU items.size items.size hi-zU items.size 0 lo) == items.size)=true then _ else _) _ _ s;rw[if_neg hno,UB]
 first
  | exact zWb (m:=Builtin.Tuple.tupleExact _) (wpAny_newObj_type (wpAny_pure ⟨_,rfl,wpAny_pure h⟩) htake)
  | exact zWb (m:=Builtin.Tuple.tupleExact _) (wpAny_newObj_type (zWb (wpAny_pure (wpAny_pure ⟨_,rfl,wpAny_pure h⟩))) htake)
  | exact zWb (zWb (m:=Builtin.Tuple.tupleExact _) (wpAny_newObj_type (wpAny_pure (wpAny_pure ⟨_,rfl,wpAny_pure h⟩)) htake))
  | exact zWb (zWb (m:=Builtin.Tuple.tupleExact _) (wpAny_newObj_type (wpAny_pure ⟨_,rfl,wpAny_pure h⟩) htake))
end
end HT
namespace L2
open PySem PySem.Spec PyProof.Rows
abbrev TO:=St->Hp->(Option Int->Hp->Prop)->Prop
def PO (X:Cx) (e:Option Expr) (t:TO):Prop:=
 ∀ (pins:List (Addr×Obj)) (s:Shared) (σ:St) (H:Hp) (Q:Option Int->Hp->Prop),Inv X pins σ H s->t σ H Q->
  wpAny (model X.prog X.w) X.A (evalPart e X.env) (λ u s'=>∃ o H',Inv X pins σ H' s'/\IsPart u o/\Q o H') X.xe s
noncomputable def Vb:TO:=λ _ H Q=>Q none H
noncomputable def WY (t:TE):TO:=fun σ H Q=>t σ H λ x H1=>∃ i,x=.int i/\Q (some i) H1
theorem intsAre_of {ns:List Int}:∀ {us:List Value},Vals (ns.map V.int) us->IntsAre us ns:=by
 induction ns with
 | nil=>intro us r;rw[List.map_nil] at r;cases r;exact .nil
 | cons n ns ih=>
  intro us r;rw[List.map_cons] at r;cases r with
  | cons r1 r2=>
   obtain⟨t,e⟩:=r1;subst e;exact .cons n t (ih r2)
section
variable {X:Cx}{e:Expr}{te:TE}{lo hi:Option Expr}{tl th:TO}{pos p2:Pos}
theorem U8:PO X none Vb:=by
 intro pins s σ H Q I h;rw[evalPart_none];exact wpAny_pure ⟨none,H,I,.none,h⟩
theorem U7 (h:PE X e te):PO X (some e) (WY te):=by
 intro pins s σ H Q I hw;rw[evalPart_some];refine zQ (h pins s σ H _ I hw) λ u s1 ⟨x,H1,I1,r1,q1⟩=>?_;obtain⟨i,rfl,q⟩:=q1;obtain⟨t,rfl⟩:=r1;exact⟨some i,H1,I1,.int i t,q⟩
def qE (X:Cx) (r:V->Option Int->Option Int->Hp->VK->Prop):Prop:=
 ∀ (pins:List (Addr×Obj)) (s:Shared) (σ:St) (H:Hp) (x:V) (v vl vu:Value) (lo hi:Option Int) (sl:Addr) (Q:VK),Inv X pins σ H s->RelV x v->s.heap.IsSliceOf sl vl vu .none->IsPart vl lo->IsPart vu hi->r x lo hi H Q->
  ∃ T id,typeLookup (.type T) "__getitem__"=pure (some (.builtin id))/\s.TypeIs v T/\wpAny (model X.prog X.w) X.A (getItem v (.ref sl)) (EP X pins σ Q) X.xe s
theorem qE.or {r r':V->Option Int->Option Int->Hp->VK->Prop}(h:qE X r) (h':qE X r'):qE X (λ x lo hi H Q=>r x lo hi H Q\/r' x lo hi H Q):=by
 intro pins s σ H x v vl vu lo hi sl Q I rx hs pl pu q;rcases q with q | q
 .exact h pins s σ H x v vl vu lo hi sl Q I rx hs pl pu q
 .exact h' pins s σ H x v vl vu lo hi sl Q I rx hs pl pu q
def WU (r:V->Option Int->Option Int->Hp->VK->Prop) (te:TE) (tl th:TO):TE:=fun σ H Q=>te σ H λ x H1=>tl σ H1 λ l H2=>th σ H2 λ u H3=>r x l u H3 Q
theorem UT {r:V->Option Int->Option Int->Hp->VK->Prop}(hr:qE X r) (he:PE X e te) (hl:PO X lo tl) (hu:PO X hi th):PE X (.Subscript e (.Slice lo hi none p2) pos) (WU r te tl th):=by
 intro pins s σ H Q I h;refine Subscript_ (zQ (he pins s σ H _ I h) λ v s1 ⟨x,H1,I1,r1,q1⟩=>?_);refine wpAny_Slice (zQ (hl pins s1 σ H1 _ I1 q1) λ vl s2 ⟨l,H2,I2,pl,q2⟩=>zQ (hu pins s2 σ H2 _ I2 q2) λ vu s3 ⟨u,H3,I3,pu,q3⟩=>?_);rw[evalPart_none];refine wpAny_pure ?_;have I4:Inv X pins σ H3 { s3 with heap:=s3.heap.push { cls:=.type "slice",data:=.fields #[vl,vu,.none] } }:=I3.kept (t':=s3.toks) λ b ob q=>zHp _ q;obtain⟨T,id,hT,ht,hg⟩:=hr pins { s3 with heap:=s3.heap.push { cls:=.type "slice",data:=.fields #[vl,vu,.none] } } σ H3 x v vl vu l u s3.heap.objs.size Q I4 r1 (Heap.IsSliceOf.new ..) pl pu q3;show wpAny (model X.prog X.w) X.A (subscriptTail e (.Slice lo hi none p2) v (.ref s3.heap.objs.size)) (EP X pins σ Q) X.xe { s3 with heap:=s3.heap.push { cls:=.type "slice",data:=.fields #[vl,vu,.none] } };exact tail_any (ops:=[.ref s3.heap.objs.size,v]) ht hT hg (by with_unfolding_all rfl)
noncomputable def sL (xs:List V) (lo hi:Option Int):List V:=(xs.drop (HT.zU xs.length 0 lo)).take (HT.zU xs.length xs.length hi-HT.zU xs.length 0 lo)
theorem Yu (xs:List V) (lo hi:Option Int):(sL xs lo hi).length<=xs.length:=by
 unfold sL;rw[List.length_take,List.length_drop];omega
def bw (K:PySem.W.Frag):V->Option Int->Option Int->Hp->VK->Prop:=λ x lo hi H Q=>∃ a xs,x=.ref a/\ym K H a xs/\
 ¬ (HT.zU xs.length 0 lo=0/\HT.zU xs.length xs.length hi=xs.length)/\∀ p,H p=none->Q (.ref p) (upd H p (.tup (sL xs lo hi)))
theorem V2:qE X (bw X.K):=by
 intro pins s σ H x v vl vu lo hi sl Q I rx hs pl pu h;obtain⟨a,xs,rfl,hx,hw,q⟩:=h;cases rx;obtain⟨its,r,ht,hz⟩:=I.tuple hx;have hlen:its.toArray.size=xs.length:=by rw[List.size_toArray];exact r.length.symm
 refine⟨"tuple",_,PyProof.Rows.slot_tuple_getitem.lookup,ht.typeIs,?_⟩;refine HT.QX ht hs pl pu (by rw[hlen];exact hw) ?_ (by rw[hlen];exact hz);rw[hlen];refine⟨.ref s.heap.objs.size,_,I.laid (t':=s.toks) (o:=.tup (sL xs lo hi)) (λ b ob q=>zHp _ q) (Nat.le_refl _) ?_,rfl,q _ (I.zJ.fresh (Nat.le_refl _))⟩;exact⟨Nat.le_trans (Yu xs lo hi) hz,_,(r.drop (HT.zU xs.length 0 lo)).take (HT.zU xs.length xs.length hi-HT.zU xs.length 0 lo),IsTup.new _ _⟩
def g9 (K:PySem.W.Frag):R2:=λ x y H Q=>∃ a b ns ms,x=.ref a/\y=.ref b/\ym K H a (ns.map V.int)/\ym K H b (ms.map V.int)/\Q (.bl (HT.lexLt ns ms)) H
theorem Sf (hu:X.A.units<cLine):y4 X (compareOp .Lt) (g9 X.K):=by
 intro pins s σ H x y v u Q I rx ry h;obtain⟨a,b,ns,ms,rfl,rfl,ha,hb,q⟩:=h;cases rx;cases ry;obtain⟨its,r1,p1,_⟩:=I.tuple ha;obtain⟨its2,r2,p2,_⟩:=I.tuple hb;have i1:IntsAre its.toArray.toList ns:=intsAre_of r1;have i2:IntsAre its2.toArray.toList ms:=intsAre_of r2;exact HT.RZ p1 p2 i1 i2 hu ⟨.bl (HT.lexLt ns ms),H,I,rfl,q⟩
def bB (K:PySem.W.Frag):R2:=λ x y H Q=>∃ a b xs ys,x=.ref a/\y=.ref b/\ym K H a xs/\ym K H b ys/\xs≠[]/\xs.length+ys.length<=sizeLine/\
 (ys=[]->Q (.ref a) H)/\(ys≠[]->∀ p,H p=none->Q (.ref p) (upd H p (.tup (xs++ys))))
theorem Vals.mE {xs:List V}{us:List Value}(r:Vals xs us):us=[]↔xs=[]:=by
 cases r with
 | nil=>simp
 | cons _ _=>simp
theorem Ss:y4 X (binaryOp .Add) (bB X.K):=by
 intro pins s σ H x y v u Q I rx ry h;obtain⟨a,b,xs,ys,rfl,rfl,ha,hb,hx,hz,q1,q2⟩:=h;cases rx;cases ry;obtain⟨its,r1,p1,_⟩:=I.tuple ha;obtain⟨its2,r2,p2,_⟩:=I.tuple hb;refine HT.O5 p1 p2 (λ z=>hx (r1.mE.mp z)) (λ z=>⟨.ref a,H,I,rfl,q1 (r2.mE.mp z)⟩) (λ z=>?_) (by rw[<- r1.length,<- r2.length];exact hz);refine⟨.ref s.heap.objs.size,_,I.laid (t':=s.toks) (o:=.tup (xs++ys)) (λ b ob q=>zHp _ q) (Nat.le_refl _) ?_,rfl,q2 (λ w=>z (r2.mE.mpr w)) _ (I.zJ.fresh (Nat.le_refl _))⟩;exact⟨by rw[List.length_append];exact hz,_,r1.append r2,IsTup.new _ _⟩
end
end L2
namespace L2
open PySem PySem.Spec PyProof.Rows
noncomputable def wL (n:Nat) (i:Int):Option Nat:=if 0<=i then (if i<n then some i.toNat else none) else if -(n:Int)<=i then some (i+n).toNat else none
noncomputable def yh {α:Type}(xs:List α) (i:Int):Option α:=(wL xs.length i).bind λ j=>xs[j]?
theorem Zh {n:Nat}{i:Int}{j:Nat}(h:wL n i=some j):seqIndex? i n=some j/\j<n/\-(n:Int)<=i/\i<n:=by
 unfold wL at h;by_cases h0:0<=i
 .rw[if_pos h0] at h;by_cases h1:i<n
  .rw[if_pos h1] at h;have e:i.toNat=j:=Option.some.inj h;exact⟨by rw[seqIndex_of h0 h1,e],by omega,by omega,h1⟩
  .rw[if_neg h1] at h;cases h
 .rw[if_neg h0] at h;by_cases h1:-(n:Int)<=i
  .rw[if_pos h1] at h;have e:(i+n).toNat=j:=Option.some.inj h;exact⟨by rw[seqIndex_neg (by omega) h1,e],by omega,h1,by omega⟩
  .rw[if_neg h1] at h;cases h
theorem eJ {α:Type}{xs:List α}{i:Int}{v:α}(h:yh xs i=some v):∃ j,seqIndex? i xs.length=some j/\xs[j]?=some v/\j<xs.length/\-(xs.length:Int)<=i/\i<xs.length:=by
 unfold yh at h;cases e:wL xs.length i with
 | none=>rw[e] at h;cases h
 | some j=>
  rw[e] at h;obtain⟨h1,h2,h3,h4⟩:=Zh e;exact⟨j,h1,h,h2,h3,h4⟩
theorem lC {α:Type}(xs:List α) (v:α):yh (xs++[v]) (-1)=some v:=by
 have hl:(xs++[v]).length=xs.length+1:=by simp
 have e:wL (xs++[v]).length (-1)=some xs.length:=by
  unfold wL;rw[hl,if_neg (by decide),if_pos (by omega)];congr 1;omega
 unfold yh;rw[e];show (xs++[v])[xs.length]?=some v;simp
def YW (b:Expr):Prop:=∀ o i,subscripted b false o i=operate [o,i] (getItem o i)
def rN (X:Cx) (r:R2):Prop:=
 ∀ (value slice:Expr) (pins:List (Addr×Obj)) (s:Shared) (σ:St) (H:Hp) (x y:V) (v u:Value) (Q:VK),Inv X pins σ H s->RelV x v->RelV y u->r x y H Q->
  subscripted slice false v u=operate [v,u] (getItem v u)->wpAny (model X.prog X.w) X.A (subscriptTail value slice v u) (EP X pins σ Q) X.xe s
def Nu (X:Cx) (id:String) (r:V->List V->Hp->VK->Prop):Prop:=
 ∀ (pins:List (Addr×Obj)) (s:Shared) (σ:St) (H:Hp) (x:V) (xs:List V) (v:Value) (us:List Value) (Q:VK),Inv X pins σ H s->RelV x v->Vals xs us->r x xs H Q->
  wpAny (model X.prog X.w) X.A (call (.builtin id) (v::us)) (EP X pins σ Q) X.xe s
section
variable {X:Cx}{a b:Expr}{ta tb:TE}{pos:Pos}
theorem rN.or {r r':R2}(h:rN X r) (h':rN X r'):rN X (λ x y H Q=>r x y H Q\/r' x y H Q):=by
 intro value slice pins s σ H x y v u Q I rx ry q hs;rcases q with q | q
 .exact h value slice pins s σ H x y v u Q I rx ry q hs
 .exact h' value slice pins s σ H x y v u Q I rx ry q hs
theorem Ta {r:R2}(hr:rN X r) (ha:PE X a ta) (hb:PE X b tb) (hs:YW b):PE X (.Subscript a b pos) (nW r ta tb):=by
 intro pins s σ H Q I h;exact Subscript_ (eF ha hb I h λ v u s2 x y H2 I2 rx ry q=>hr a b pins s2 σ H2 x y v u Q I2 rx ry q (hs _ _))
def b6 (K:PySem.W.Frag):R2:=λ x y H Q=>∃ p xs i v,x=.ref p/\y=.int i/\yf K H p xs/\yh xs i=some v/\Q v H
def bz (K:PySem.W.Frag):R2:=λ x y H Q=>∃ p xs i v,x=.ref p/\y=.int i/\ym K H p xs/\yh xs i=some v/\Q v H
def b5:R2:=λ x y H Q=>∃ z i c,x=.str z/\y=.int i/\z.length<=sizeLine/\yh z.cps.toList i=some c/\Q (.str ⟨#[c]⟩) H
theorem Q5:rN X (b6 X.K):=by
 intro value slice pins s σ H x y v u Q I rx ry h hs;obtain⟨p,xs,i,z,rfl,rfl,hq,he,q⟩:=h;cases rx;obtain⟨t,rfl⟩:=ry;obtain⟨its,r,pl,hz⟩:=I.list hq;obtain⟨j,h1,h2,h3,h4,h5⟩:=eJ he;obtain⟨w,ew,rw'⟩:=r.get h2;have hl:=r.length;have hn:=ph;have fin:EP X pins σ Q w s:=⟨z,H,I,rw',q⟩
 by_cases h0:0<=i
 .have hj:i.toNat=j:=by
   rw[seqIndex_of h0 h5] at h1;exact Option.some.inj h1
  exact item_listR pl.isList h0 (by omega) (by rw[hj];simpa using ew) fin hs
 .have hj:(i+(its.toArray.size:Int)).toNat=j:=by
   rw[seqIndex_neg (by omega) h4] at h1;rw[List.size_toArray,<- hl];exact Option.some.inj h1
  exact subscriptTail_builtinR (x:=w) pl.isList.typeIs slot_list_getitem.lookup
   (wpAny_getItem_list_neg (Q:=λ r s'=>r=w/\EP X pins σ Q r s') pl.isList (by omega) (by rw[List.size_toArray] <;> omega) (by omega) (by rw[hj];simpa using ew) ⟨rfl,fin⟩) hs
theorem Q2:rN X (bz X.K):=by
 intro value slice pins s σ H x y v u Q I rx ry h hs;obtain⟨p,xs,i,z,rfl,rfl,hq,he,q⟩:=h;cases rx;obtain⟨t,rfl⟩:=ry;obtain⟨its,r,pl,hz⟩:=I.tuple hq;obtain⟨j,h1,h2,h3,h4,h5⟩:=eJ he;obtain⟨w,ew,rw'⟩:=r.get h2;have hl:=r.length;have hn:=ph;have fin:EP X pins σ Q w s:=⟨z,H,I,rw',q⟩
 exact subscriptTail_builtinR (x:=w) pl.typeIs slot_tuple_getitem.lookup
  (getItem_tuple (j:=j) (Q:=λ r s'=>r=w/\EP X pins σ Q r s') pl (by omega) (by omega) (by rw[List.size_toArray,<- hl];exact h1) (by simpa using ew) ⟨rfl,fin⟩) hs
theorem Q3:rN X b5:=by
 intro value slice pins s σ H x y v u Q I rx ry h hs;obtain⟨z,i,c,rfl,rfl,hz,he,q⟩:=h;obtain⟨t,rfl⟩:=rx;obtain⟨t',rfl⟩:=ry;obtain⟨j,h1,h2,h3,h4,h5⟩:=eJ he;have hl:z.cps.toList.length=z.length:=by simp[Str.length]
 rw[hl] at h1 h4 h5;have hn:=ph;exact tail_any (typeIs_str s z t) slot_str_getitem.lookup (getItem_str (c:=c) (by
  have e1:decide (i < -(2 ^ 63:Int))=false:=decide_eq_false (by omega);have e2:decide (i≥2 ^ 63)=false:=decide_eq_false (by omega);rw[e1,e2,Bool.or_false]) (by rw[h1];simpa using h2) ⟨.str ⟨#[c]⟩,H,I.tok _,⟨_,rfl⟩,q⟩) hs
def b7 (K:PySem.W.Frag):R2:=λ x y H Q=>b6 K x y H Q\/bz K x y H Q\/b5 x y H Q
theorem Q4:rN X (b7 X.K):=Q5.or (Q2.or Q3)
theorem RY (its:List Value) (n j:Nat) (u:Value):Obj.mapSeq (·.setIfInBounds j u) { cls:=.type "list",data:=.seq its.toArray n }={ cls:=.type "list",data:=.seq (its.set j u).toArray n }:=by
 simp[Obj.mapSeq]
theorem Inv.lst {pins:List (Addr×Obj)}{σ:St}{H:Hp}{s:Shared}{p:Addr}{xs:List V}(I:Inv X pins σ H s) (h:H p=some (.lst xs)):
  ∃ (its:List Value) (n:Nat),Vals xs its/\s.heap.get? p=some { cls:=.type "list",data:=.seq its.toArray n }/\xs.length<=sizeLine:=by
 obtain⟨z,its,n,r,e⟩:=I.zJ p _ h;exact⟨its,n,r,e,z⟩
theorem Inv.R_ {pins:List (Addr×Obj)}{σ:St}{H:Hp}{s:Shared}{p:Addr}{xs ys:List V}{its its':List Value}{n n':Nat}{f:Obj->Obj}(I:Inv X pins σ H s) (h:H p=some (.lst xs))
  (ho:s.heap.get? p=some { cls:=.type "list",data:=.seq its.toArray n }) (hf:f { cls:=.type "list",data:=.seq its.toArray n }={ cls:=.type "list",data:=.seq its'.toArray n' }) (r:Vals ys its') (hz:ys.length<=sizeLine) (t:Nat):
  Inv X pins σ (upd H p (.lst ys)) { s with heap:=s.heap.update p f,toks:=t }:=by
 have e:(s.heap.update p f).get? p=some { cls:=.type "list",data:=.seq its'.toArray n' }:=by
  rw[Heap.get?_update_self f ho (by rw[hf] <;> rfl),hf]
 refine I.write (x:=p) (e:=p) (by rw[h];trivial) (.inl rfl) (λ b u hb q=>(Heap.get?_update_other _ _ (Ne.symm hb)).trans q) ⟨_,e⟩ ?_;exact⟨hz,its',n',r,e⟩
def Ug:V->V->V->Hp->(Hp->Prop)->Prop:=λ o i v H Q=>∃ p xs k j,o=.ref p/\i=.int k/\H p=some (.lst xs)/\wL xs.length k=some j/\Q (upd H p (.lst (xs.set j v)))
theorem set_list:YX X Ug:=by
 intro pins s σ H o i v ov iv u Q I ro ri rv h;obtain⟨p,xs,k,j,rfl,rfl,hp,hj,q⟩:=h;cases ro;obtain⟨t,rfl⟩:=ri;obtain⟨its,n,r,ho,hz⟩:=I.lst hp;obtain⟨h1,h2,h3,h4⟩:=Zh hj;have hl:=r.length;have hn:=ph;have I':Inv X pins σ (upd H p (.lst (xs.set j v))) { s with heap:=s.heap.update p (Obj.mapSeq (·.setIfInBounds j u)) }:=
  I.R_ hp ho (RY its n j u) (r.set rv j) (by rw[List.length_set];exact hz) s.toks
 by_cases h0:0<=k
 .have hk:k.toNat=j:=by
   rw[seqIndex_of h0 h4] at h1;exact Option.some.inj h1
  exact PySem.W.ki_setAt ho h0 (by omega) (by rw[List.size_toArray,<- hl];exact h4) (by rw[hk];exact⟨_,I',q⟩)
 .have hk:(k+(its.toArray.size:Int)).toNat=j:=by
   rw[seqIndex_neg (by omega) h3] at h1;rw[List.size_toArray,<- hl];exact Option.some.inj h1
  exact PySem.W.ki_setBack ho (by omega) (by rw[List.size_toArray,<- hl];exact h3) (by omega) (by rw[hk];exact⟨_,I',q⟩)
theorem Vz (lo hi:Option Int) (n:Nat):(sliceBounds lo hi none n).1=((HT.zU n 0 lo:Nat):Int)/\(sliceBounds lo hi none n).2.1=((HT.zU n n hi:Nat):Int)/\(sliceBounds lo hi none n).2.2=1:=by
 refine⟨?_,?_,rfl⟩
 .cases lo with
  | none=>simp[sliceBounds,HT.zU]
  | some i=>
   simp only[sliceBounds,HT.zU,Option.getD_none,show (1:Int)>0 by decide,if_true];by_cases h:i<0
   .simp only[h,if_true] <;> omega
   .simp only[h,if_false] <;> omega
 .cases hi with
  | none=>simp[sliceBounds,HT.zU]
  | some i=>
   simp only[sliceBounds,HT.zU,Option.getD_none,show (1:Int)>0 by decide,if_true];by_cases h:i<0
   .simp only[h,if_true] <;> omega
   .simp only[h,if_false] <;> omega
theorem V0 (its:List Value) (lo hi:Option Int):slicePick its.toArray lo hi none=((its.drop (HT.zU its.length 0 lo)).take (HT.zU its.length its.length hi-HT.zU its.length 0 lo)).toArray:=by
 obtain⟨h1,h2,h3⟩:=Vz lo hi its.toArray.size;unfold slicePick;rw[h1,h2,h3];simp only[sliceRange_one,pick_run,List.size_toArray] <;> rfl
def bx (K:PySem.W.Frag):V->Option Int->Option Int->Hp->VK->Prop:=λ x lo hi H Q=>∃ a xs,x=.ref a/\yf K H a xs/\∀ p,H p=none->Q (.ref p) (upd H p (.lst (sL xs lo hi)))
theorem V3:qE X (bx X.K):=by
 intro pins s σ H x v vl vu lo hi sl Q I rx hs pl pu h;obtain⟨a,xs,rfl,hx,q⟩:=h;cases rx;obtain⟨its,r,ht,hz⟩:=I.list hx;have hlen:=r.length;refine⟨"list",_,slot_list_getitem.lookup,ht.isList.typeIs,?_⟩;refine wpAny_getItem_list_slice ht.isList hs pl pu .none (by simp) ?_ (by rw[List.size_toArray] <;> omega);rw[V0,<- hlen];refine⟨.ref s.heap.objs.size,_,I.laid (t':=s.toks) (o:=.lst (sL xs lo hi)) (λ b ob q=>zHp _ q) (Nat.le_refl _) ?_,rfl,q _ (I.zJ.fresh (Nat.le_refl _))⟩;exact⟨Nat.le_trans (Yu xs lo hi) hz,_,0,(r.drop (HT.zU xs.length 0 lo)).take (HT.zU xs.length xs.length hi-HT.zU xs.length 0 lo),Heap.get?_push_size _ rfl⟩
theorem OM:y_ X (.builtin "len") (λ xs H Q=>∃ p ys,xs=[.ref p]/\(yf X.K H p ys\/ym X.K H p ys)/\Q (.int ys.length) H):=by
 intro pins s σ H xs us Q I r h;obtain⟨p,ys,rfl,hq,q⟩:=h;obtain⟨u,rfl,rx⟩:=vals1 r;cases rx;have hn:=ph;rcases hq with hq | hq
 .obtain⟨its,r',pl,hz⟩:=I.list hq;have hlen:=r'.length;exact Calls.call_len_list pl.isList (by simp only[List.size_toArray] <;> omega) ⟨.int ys.length,H,I.tok _,⟨s.toks+1,by rw[List.size_toArray,hlen]⟩,q⟩
 .obtain⟨its,r',pl,hz⟩:=I.tuple hq;have hlen:=r'.length;exact len_tuple pl (by simp only[List.size_toArray] <;> omega) ⟨.int ys.length,H,I.tok _,⟨s.toks+1,by rw[List.size_toArray,hlen]⟩,q⟩
theorem OL:y_ X (.builtin "len") (λ xs H Q=>∃ z,xs=[.str z]/\z.length<=sizeLine/\Q (.int z.length) H):=by
 intro pins s σ H xs us Q I r h;obtain⟨z,rfl,hz,q⟩:=h;obtain⟨u,rfl,t,rfl⟩:=vals1 r;have hn:=ph;exact len_str (by omega) ⟨.int z.length,H,I.tok _,⟨_,rfl⟩,q⟩
theorem y_.or {f:Value}{r r':List V->Hp->VK->Prop}(h:y_ X f r) (h':y_ X f r'):y_ X f (λ xs H Q=>r xs H Q\/r' xs H Q):=by
 intro pins s σ H xs us Q I rs q;rcases q with q | q
 .exact h pins s σ H xs us Q I rs q
 .exact h' pins s σ H xs us Q I rs q
theorem OJ:y_ X (.type "list") (λ xs H Q=>∃ p ys,xs=[.ref p]/\(yf X.K H p ys\/ym X.K H p ys)/\∀ l,H l=none->Q (.ref l) (upd H l (.lst ys))):=by
 intro pins s σ H xs us Q I r h;obtain⟨p,ys,rfl,hq,q⟩:=h;obtain⟨u,rfl,rx⟩:=vals1 r;cases rx;have fin:∀ (its:List Value),Vals ys its->ys.length<=sizeLine->∀ (h':Heap) (c':Nat),(∀ b o',s.heap.get? b=some o'->h'.get? b=some o')->
   h'.get? s.heap.objs.size=some { cls:=.type "list",dict:=none,data:=.seq its.toArray c',slots:=#[] }->EP X pins σ Q (.ref s.heap.objs.size) { s with heap:=h' }:=λ its r' hz h' c' kp e=>
  ⟨.ref s.heap.objs.size,_,I.laid (t':=s.toks) kp (Nat.le_refl _) (show xM X.prog X.w _ h' _ (.lst ys) from ⟨hz,its,c',r',e⟩),rfl,q _ (I.zJ.fresh (Nat.le_refl _))⟩
 rcases hq with hq | hq
 .obtain⟨its,r',pl,hz⟩:=I.list hq;have hlen:=r'.length;obtain⟨o,ho,hc,n,hd⟩:=pl.isList;exact call_list_seq p (.inl rfl) ho hc hd (λ h' c' kp e=>fin its r' hz h' c' kp e) (by simp only[List.size_toArray] <;> omega)
 .obtain⟨its,r',pl,hz⟩:=I.tuple hq;have hlen:=r'.length;obtain⟨o,ho,hc,n,hd⟩:=pl;exact call_list_seq p (.inr rfl) ho hc hd (λ h' c' kp e=>fin its r' hz h' c' kp e) (by simp only[List.size_toArray] <;> omega)
theorem O6:y_ X (.type "tuple") (λ xs H Q=>∃ p ys,xs=[.ref p]/\((yf X.K H p ys/\∀ l,H l=none->Q (.ref l) (upd H l (.tup ys)))\/(ym X.K H p ys/\Q (.ref p) H))):=by
 intro pins s σ H xs us Q I r h;obtain⟨p,ys,rfl,h⟩:=h;obtain⟨u,rfl,rx⟩:=vals1 r;cases rx;rcases h with ⟨hq,q⟩ | ⟨hq,q⟩
 .obtain⟨its,r',pl,hz⟩:=I.list hq;have hlen:=r'.length;refine call_tuple_list pl.isList (λ h' kp=>?_) (by simp only[List.size_toArray] <;> omega);have I1:Inv X pins σ H { s with heap:=h' }:=I.kept (t':=s.toks) kp;have I2:Inv X pins σ (upd H h'.objs.size (.tup ys)) { s with heap:=h'.push { cls:=.type "tuple",data:=.seq its.toArray } }:=
   I1.laid (t':=s.toks) (λ b o e=>zHp _ e) (Nat.le_refl _) (show xM X.prog X.w _ _ _ (.tup ys) from ⟨hz,its,r',IsTup.new _ _⟩)
  exact⟨.ref h'.objs.size,_,I2,rfl,q _ (I1.zJ.fresh (Nat.le_refl _))⟩
 .obtain⟨its,r',pl,hz⟩:=I.tuple hq;exact call_tuple_same pl ⟨.ref p,H,I,rfl,q⟩
def c7 (K:PySem.W.Frag) (T:String) (x:V) (H:Hp):Prop:=match x with
 | .str _=>T="str"
 | .int _=>T="int"
 | .ref p=>(T="list"/\∃ xs,yf K H p xs)\/(T="tuple"/\∃ o,K.lookup p=some o/\o.cls=.type "tuple"/\o.dict=none)\/
   (T="dict"/\((∃ kvs,H p=some (.dK kvs))\/∃ kvs,H p=some (.dT kvs)))\/(T="set"/\∃ S n,H p=some (.set S n))
 | _=>False
theorem WD {pins:List (Addr×Obj)}{σ:St}{H:Hp}{s:Shared}{T:String}{x:V}{v:Value}(I:Inv X pins σ H s) (r:RelV x v) (ty:c7 X.K T x H):
  s.TypeIs v T/\∀ a,v=.ref a->∃ ob,s.heap.get? a=some ob/\ob.dict=none:=by
 cases x with
 | str z=>
  obtain⟨t,rfl⟩:=r;cases (show T="str" from ty);exact⟨typeIs_str s z t,λ _ e=>nomatch e⟩
 | int i=>
  obtain⟨t,rfl⟩:=r;cases (show T="int" from ty);exact⟨typeIs_int s i t,λ _ e=>nomatch e⟩
 | ref p=>
  cases r;rcases ty with ⟨rfl,xs,hq⟩ | ⟨rfl,o,hk,hc,hd⟩ | ⟨rfl,hk⟩ | ⟨rfl,S,n,hk⟩
  .obtain⟨its,_,pl,_⟩:=I.list hq;refine⟨pl.isList.typeIs,λ a e=>?_⟩;cases e;obtain⟨o,n,e,c,hd,_⟩:=pl;exact⟨o,e,hd⟩
  .refine⟨⟨o,I.uv p o hk,hc⟩,λ a e=>?_⟩;cases e;exact⟨o,I.uv _ o hk,hd⟩
  .have z:∃ o,s.heap.get? p=some o/\o.ExactDict:=by
    rcases hk with ⟨kvs,hk⟩ | ⟨kvs,hk⟩
    .obtain⟨_,_,_,_,o,_,_,e,ex,_⟩:=I.zJ p _ hk;exact⟨o,e,ex⟩
    .obtain⟨_,_,_,_,o,_,_,e,ex,_⟩:=I.zJ p _ hk;exact⟨o,e,ex⟩
   obtain⟨o,e,ex⟩:=z;refine⟨⟨o,e,ex.1⟩,λ a e2=>?_⟩;cases e2;exact⟨o,e,ex.2.1⟩
  .obtain⟨o,_,_,_,e,ex,_⟩:=I.zJ p _ hk;refine⟨⟨o,e,ex.1⟩,λ a e2=>?_⟩;cases e2;exact⟨o,e,ex.2.1⟩
 | _=>exact False.elim ty
def i3 (K:PySem.W.Frag) (T:String) (r:V->List V->Hp->VK->Prop) (to:TE) (t:TA):TE:=fun σ H Q=>to σ H λ x H1=>c7 K T x H1/\t σ H1 λ xs H2=>r x xs H2 Q
variable {o e:Expr}{es:List Expr}{to:TE}{t:TA}{name:Str}{apos cpos:Pos}{T id:String}{r:V->List V->Hp->VK->Prop}
theorem bL (pa:PlainAttrs T) (slot:Slot T name id) (hty:typeOf (.builtin id)=pure (.type "method_descriptor")) (hm:Nu X id r) (ho:PE X o to) (ha:PA X (e::es) t)
  (hbase:attributeBase o name X.env (eval o X.env)=eval o X.env:=by rfl)
  (hfew:((backTo cpos (starEach (e::es) X.env)).all (λ x=>!x.1)&&(backToKw cpos (keywordEach [] X.env)).all (λ x=>x.1.isSome)
   && decide ((e::es).length+([]:List Keyword).length+(if ([]:List Keyword).isEmpty then 0 else 1)<30))=true:=by rfl)
  (hline:(apos.endLine == cpos.line)=true:=by rfl) (hs:starEach (e::es) X.env=(false,eval e X.env)::starEach es X.env:=by rfl) (hplain:(backTo cpos (starEach es X.env)).any (·.1)=false:=by rfl):
  PE X (.Call (.Attribute o name apos) (e::es) [] cpos) (i3 X.K T r to t):=by
 intro pins s σ H Q I h;refine wpAny_Call_method_late hbase hfew hline rfl (zQ (ho pins s σ H _ I h) λ v s1 ⟨x,H1,I1,r1,ty,q1⟩=>?_);obtain⟨h1,h2⟩:=WD I1 r1 ty;refine⟨T,id,pa,slot,hty,h1,h2,?_⟩;have hA:=ha cpos pins s1 σ H1 _ I1 q1;rw[hs] at hA ⊢;refine Calls.callWith_builtin (by show (false||(backTo cpos (starEach es X.env)).any (·.1))=false;rw[hplain] <;> rfl) (Calls.evalArgs_plain ?_);exact zQ hA λ us s2 ⟨vs,H2,I2,r2,q2⟩=>hm pins s2 σ H2 x vs v us Q I2 r1 r2 q2
end
end L2
namespace L2
open PySem PySem.Spec PyProof.Rows
def YZ (X:Cx) (id:String) (r:V->List V->Hp->VK->Prop):Prop:=
 ∀ (pins:List (Addr×Obj)) (s:Shared) (σ:St) (H:Hp) (x:V) (xs:List V) (v:Value) (us:List Value) (Q:VK),Inv X pins σ H s->RelV x v->Vals xs us->r x xs H Q->
  wpAny (model X.prog X.w) X.A (call (.builtin id) (v::us)) (EP X pins σ Q) X.xe s
theorem Vals.one:∀ {x:V}{us:List Value},Vals [x] us->∃ u,us=[u]/\RelV x u
 | _,_,.cons r .nil=>⟨_,rfl,r⟩
theorem Vals.rep {xs:List V}{us:List Value}(h:Vals xs us):∀ k:Nat,Vals (List.replicate k xs).flatten (List.replicate k us).flatten
 | 0=>.nil
 | k+1=>by
  rw[List.replicate_succ,List.replicate_succ,List.flatten_cons,List.flatten_cons];exact Vals.append h (Vals.rep h k)
section
variable {X:Cx}{pins:List (Addr×Obj)}{σ:St}{H:Hp}{s:Shared}{l b:Addr}{xs ys zs:List V}
theorem Inv.aP {its its':List Value}{n:Nat}{f:Array Value->Array Value}{t':Nat}(I:Inv X pins σ H s) (hH:H l=some (.lst xs))
  (e:s.heap.get? l=some { cls:=.type "list",data:=.seq its.toArray n }) (hf:f its.toArray=its'.toArray) (hv:Vals ys its') (hz:ys.length<=sizeLine):
  Inv X pins σ (upd H l (.lst ys)) { s with heap:=s.heap.update l (Obj.mapSeq f),toks:=t' }:=by
 have q:=PySem.IsL.update e f;rw[hf] at q;refine I.write (x:=l) (e:=l) (by rw[hH];exact trivial) (.inl rfl) (λ b' u hb hu=>(Heap.get?_update_other s.heap (Obj.mapSeq f) (Ne.symm hb)).trans hu) ⟨_,q⟩ ?_;exact⟨hz,its',_,hv,q⟩
theorem Inv.Qc {its:List Value}{t':Nat}(I:Inv X pins σ H s) (hv:Vals ys its) (hz:ys.length<=sizeLine):
  Inv X pins σ (upd H s.heap.objs.size (.lst ys)) { s with heap:=s.heap.push { cls:=.type "list",data:=.seq its.toArray },toks:=t' }:=
 I.laid (λ _ _ q=>zHp _ q) (Nat.le_refl _) ⟨hz,its,0,hv,Heap.get?_push_size _ rfl⟩
theorem Inv.fresh (I:Inv X pins σ H s):H s.heap.objs.size=none:=I.zJ.fresh (Nat.le_refl _)
theorem Inv.gU (I:Inv X pins σ H s) (hH:H l=some (.lst xs)):xs.length<=sizeLine/\∃ (its:List Value) (n:Nat),Vals xs its/\xs.length=its.length/\s.heap.get? l=some { cls:=.type "list",data:=.seq its.toArray n }:=by
 obtain⟨z,its,n,r,e⟩:=I.zJ l _ hH;exact⟨z,its,n,r,r.length,e⟩
theorem RD {n:Nat}(h:n<=sizeLine):Builtin.List.listTooLong n=false:=by
 unfold Builtin.List.listTooLong;exact decide_eq_false (by omega)
end
section
variable {X:Cx}
def bD:V->List V->Hp->VK->Prop:=λ x vs H Q=>∃ l xs y,x=.ref l/\vs=[y]/\H l=some (.lst xs)/\xs.length<sizeLine/\Q .zl (upd H l (.lst (xs++[y])))
theorem aN:YZ X "list.append" bD:=by
 intro pins s σ H x vs v us Q I rx rv h;obtain⟨l,xs,y,rfl,rfl,hH,hz,q⟩:=h;cases rx;obtain⟨u,rfl,ru⟩:=rv.one;obtain⟨z,its,n,r,hl,e⟩:=I.gU hH;refine call_meets F.slot_list_append ⟨_,e,rfl⟩ F.entry_list_append (F.args_list_append_2 _ _) (PySem.list_append l its.toArray n u (by rw[List.size_toArray];omega)) ⟨e,?_⟩;refine⟨.zl,_,I.aP (its':=its++[u]) hH e (by simp) (r.append (.cons ru .nil)) ?_,rfl,q⟩;rw[List.length_append,List.length_singleton];omega
def b9:V->List V->Hp->VK->Prop:=λ x vs H Q=>∃ l b xs zs,x=.ref l/\vs=[.ref b]/\H l=some (.lst xs)/\H b=some (.lst zs)/\xs.length+zs.length<=sizeLine/\Q .zl (upd H l (.lst (xs++zs)))
theorem RU:YZ X "list.extend" b9:=by
 intro pins s σ H x vs v us Q I rx rv h;obtain⟨l,b,xs,zs,rfl,rfl,hH,hB,hz,q⟩:=h;cases rx;obtain⟨u,rfl,ru⟩:=rv.one;cases ru;obtain⟨z,its,n,r,hl,e⟩:=I.gU hH;obtain⟨z2,its2,n2,r2,hl2,e2⟩:=I.gU hB;have hsz:its.toArray.size+its2.toArray.size<=sizeLine:=by rw[List.size_toArray,List.size_toArray];omega
 have hlong:¬ (!its.toArray.isEmpty&&Builtin.List.listTooLong (its.toArray.size+its2.toArray.size))=true:=by
  rw[RD hsz,Bool.and_false];exact Bool.false_ne_true
 refine call_meets F.slot_list_extend ⟨_,e,rfl⟩ F.entry_list_extend (F.args_list_extend_2 _ _)
  (AutoSeq1.list_extend_list_list_0 l its.toArray n b its2.toArray n2 hlong (by rw[List.size_toArray];omega) (by omega)) ⟨e,e2,?_⟩
 refine⟨.zl,_,I.aP (its':=its++its2) hH e (by simp) (r.append r2) ?_,rfl,q⟩;rw[List.length_append];omega
end
section
variable {prog:Program}{w:World}{A:Around}{E:Value->Shared->Prop}{s:Shared}
end
section
variable {X:Cx}
end
end L2
namespace Wv
open PySem PySem.W PySem.Calls PyProof.Rows
theorem QE {P:Params}{h:Heap}:∀ (ns:List Int) (vs:List Value),WellAll P h vs (ns.map WData.int)->IntsAre vs ns:=by
 intro ns
 induction ns with
 | nil=>
  intro vs w;rw[List.map_nil] at w;cases w;exact .nil
 | cons n ns ih=>
  intro vs w;rw[List.map_cons] at w;cases w with
  | cons a b=>
   cases a;exact .cons _ _ (ih _ b)
theorem VA {l:OpenLaw}{n:Nat}(hn:l.most=some n) {P:Params}{h:Heap}{args:List WData}{vals:List Value}
  (hpre:l.row.toRowW.claim.pre args=true) (hwl:WellAll P h vals args):
  ∃ a vs ns,vals=[Value.ref a]/\args=[WData.list (ns.map WData.int)]/\h.get? a=some { cls:=.type "list",data:=.seq vs.toArray }/\IntsAre vs ns/\ns.length<=n:=by
 have hsh:WShape.hasAll [] args [.list .int]=true:=(pre_splitW hpre).1;have hc:l.pre.holds [] { args:=args }=true:=(pre_splitW hpre).2;obtain⟨d,r,rfl,h1,h2⟩:=hasAllW_cons hsh;obtain rfl:=hasAllW_nil h2;obtain⟨xs,rfl,h3⟩:=hasW_list h1;obtain⟨ns,rfl⟩:=items_int h3;have hlen:ns.length<=n:=by
  unfold OpenLaw.pre at hc;have h4:(WTm.not (.lt (.lit (.int (n:Int))) (.len (.arg 0)))).holds [] { args:=[.list (ns.map .int)] }=true:=by
   have h4:=(holds_andW hc).1;rw[hn] at h4;exact h4
  have h5:=condW_of h4 (w_not (w_lt w_lit (w_len_list (w_arg rfl))));rw[List.length_map] at h5;refine Nat.le_of_not_lt λ q=>?_;have q':(n:Int)<((ns.length:Nat):Int):=by omega
  first
   | (rw[decide_eq_true q'] at h5;exact absurd h5 (by decide))
   | (simp at h5;omega)
 cases hwl with
 | cons w1 w2=>
  cases w2;cases w1 with
  | list ho hall=>exact⟨_,_,ns,rfl,rfl,ho,QE ns _ hall,hlen⟩
theorem U6 (l:OpenLaw) (args:List WData):l.row.toRowW.claim.post args (.bool true) args=true:=
 postW_of (r:=l.row.toRowW) (X:=(true == true))
  (show WShape.has [] (.bool true) .bool=true by first | rfl | decide | simp[WShape.has,WShape.arms,WShape.armsAll])
  (show (WTm.eq .res (.lit (.bool true))).value [] { args:=args,res:=some (.bool true),after:=args }=some (.bool (true == true)) from w_eq_bool (w_res rfl) w_lit) rfl
theorem Nf {l:OpenLaw}{n:Nat}{q:Program}{loose:List Str}{XP:(Str->Option Value)->Heap->Prop}{YP:World->Heap->Prop}{d:DefRec}
  (hn:l.most=some n) (hdf:d.params.defaults=[])
  (call:∀ (w:World) (s₀ s₁:Shared) (mg mb:Str->Option Value) (fa:Addr) (o:Obj) (pm cd doc:Value) (a:Addr) (vs:List Value) (ns:List Int),
   Ground q loose [] XP w s₀ mg mb s₁.heap->YP w s₁.heap->
   s₁.heap.get? fa=some o->o.data=.func (docDef d.name d.params d.body d.scope pm cd doc)->s₁.heap.CodeRec cd d.name->mg d.name=some (.ref fa)->
   s₁.heap.get? a=some { cls:=.type "list",data:=.seq vs.toArray }->IntsAre vs ns->ns.length<=n->s₁.gens=#[]->
   codeAny (model l.prog w) callerA (.call (.ref fa) ⟨[.ref a],[]⟩) (λ r s'=>r=.ok (.ret (.bool true))/\OldK s₁.heap s'.heap/\s'.os=s₁.os/\AllBare s'.gens) s₁):
  WalkO q loose XP YP l.row.toRowW d [] (λ f vs=>PySem.call f vs):=by
 intro w s₀ s₁ mg mb G Y fa o pm cd doc dV kV ho hd hcd hD hmg hg args vals as hpre hlay hrd hwl hlo;obtain rfl:dV=.none:=Dflts.none hD hdf;obtain rfl:kV=.none:=Dflts.noKw hD;obtain⟨a,vs,ns,rfl,rfl,hobj,hints,hlen⟩:=VA hn hpre hwl;refine enter_call (codeAny_mono (call w s₀ s₁ mg mb fa o pm cd doc a vs ns G Y ho (fd_plain hd) hcd hmg hobj hints hlen hg) λ r s' hq=>?_);obtain⟨rfl,h2,h3,h4⟩:=hq;exact⟨.inl ⟨.bool true,.bool true,[],rfl,λ _=>rfl,.bool true,U6 l _,λ _=>⟨List.Pairwise.nil,λ _ hm=>(nomatch hm)⟩⟩,h2,h3,h4⟩
section
variable {prog:Program}{w:World}{A:Around}{E:Value->Shared->Prop}{s:Shared}{K:Frag}
end
end Wv
namespace L2
open PySem PySem.Spec PyProof.Rows
theorem cq:∀ {vs:List Value}{ns:List Int},IntsAre vs ns->Vals (ns.map V.int) vs
 | _,_,.nil=>.nil
 | _,_,.cons n t h=>.cons ⟨t,rfl⟩ (cq h)
def jN (H:Hp):Prop:=∀ b,H b=none\/∃ o xs,H b=some (.vd o (.lst xs))
theorem Qr {P:Program}{w:World}{K:PySem.W.Frag}{mg mb:Str->Option Value}{CX:tX}{k:Nat}{fa a:Addr}{fd:FuncData}{x:Str}{sp:Sp}{s₁:Shared}{vs:List Value}{ns:List Int}
  (KX:K.In s₁.heap) (hns:s₁.heap.Ns mainGlobals mg) (hb:s₁.heap.Ns builtinsNs mb) (hbb:∀ x:Str,x≠"__name__"->mb x=bootBuiltins x) (hlim:s₁.heap.NoLimit) (hg:s₁.gens=#[])
  (ha:s₁.heap.get? a=some { cls:=.type "list",data:=.seq vs.toArray }) (hi:IntsAre vs ns) (hl:ns.length<=sizeLine) (hr:yS k callerA)
  (F:∀ base:Heap,K.In base->base.Ns mainGlobals mg->tw P w K mg base CX k fa fd [x] sp) (hbind:∀ (s:Shared) (u:Value),BindsTo s fd ⟨[u],[]⟩ [(x,u)])
  (hsp:∀ H:Hp,jN H->yf K H a (ns.map V.int)->sp [.ref a] H (λ v _=>v=.bl true) λ _ _ _=>False)
  (hCX:∀ H e s',CX [] H s₁ (λ _ _ _=>False) e s'->False):
  codeAny (model P w) callerA (.call (.ref fa) ⟨[.ref a],[]⟩) (λ r s'=>r=.ok (.ret (.bool true))/\OldK s₁.heap s'.heap/\s'.os=s₁.os/\AllBare s'.gens) s₁:=by
 have rv:=cq hi;have lenV:=hi.length;have core:∀ H:Hp,jN H->yf K H a (ns.map V.int)->x8 P w H s₁.heap->(∀ b,H b≠none->b=a)->(H a≠none->K.lookup a=none)->
   codeAny (model P w) callerA (.call (.ref fa) ⟨[.ref a],[]⟩) (λ r s'=>r=.ok (.ret (.bool true))/\OldK s₁.heap s'.heap/\s'.os=s₁.os/\AllBare s'.gens) s₁:=by
  intro H hO hS zJ hA hK;have base_of:∀ {b:Addr}{o:Obj},s₁.heap.get? b=some o->H b=none->(rA s₁.heap H).get? b=some o:=λ e n=>QO e n;have noA:∀ {b:Addr}{o:Obj}{es:Array DictEntry}{ep:Nat},s₁.heap.get? b=some o->o.data=.dict es ep->H b=none:=λ{b o es ep} e d=>by
   cases q:H b with
   | none=>rfl
   | some u=>
    have e':b=a:=hA b (by rw[q];simp);subst e';rw[ha] at e;cases e;have d':Data.seq vs.toArray _=Data.dict es ep:=d;cases d'
  have nsK:∀ {b:Addr}{m:Str->Option Value},s₁.heap.Ns b m->(rA s₁.heap H).Ns b m:=λ{b m} ⟨o,es,ep,e,d,r⟩=>⟨o,es,ep,base_of e (noA e d),d,r⟩;have hKb:K.In (rA s₁.heap H):=λ b o e=>base_of (KX b o e) (by
   cases q:H b with
   | none=>rfl
   | some u=>
    have e':b=a:=hA b (by rw[q];simp);subst e';rw[hK (by rw[q];simp)] at e;cases e)
  have hM:Mod K mg (rA s₁.heap H):=⟨hKb,nsK hns,⟨mb,nsK hb,hbb⟩,let ⟨mc,h1,h2⟩:=hlim;⟨mc,nsK h1,h2⟩⟩
  have e0:j_ P w K mg (rA s₁.heap H) callerA [] s₁ H:=⟨rfl,hM,λ b o e=>RC e,Nat.le_of_eq (QN _ _),trivial,λ b hb=>absurd (show b∈([]:List Addr) from hb) (by simp),zJ,.of_eq hg⟩
  refine codeAny_mono ((F _ hKb (nsK hns)).run callerA [] s₁ H ⟨[.ref a],[]⟩ [.ref a] [.ref a] _ _ hr e0 (hbind s₁ (.ref a)) (.cons rfl .nil) (hsp H hO hS)) λ r s' h=>?_;cases r with
  | error e=>exact (hCX H e s' h).elim
  | ok fl=>
   cases fl with
   | next=>exact False.elim h
   | brk=>exact False.elim h
   | cont=>exact False.elim h
   | ret u=>
    obtain⟨v,H',os,bare,un,hok',r',q⟩:=h;have q':v=.bl true:=q;subst q';obtain rfl:u=Value.bool true:=r';refine⟨rfl,OldK.of_keep λ b o e=>?_,os,bare⟩;cases q:H b with
    | none=>exact un.keep b o e q (by intro z;exact absurd (show b∈([]:List Addr) from z) (by simp)) (by simp)
    | some u=>
     rcases hO b with z | ⟨ob,xs,z⟩
     .rw[q] at z;cases z
     .have z2:=un.rD b ob _ z;obtain⟨e1,_⟩:=zJ b _ z;obtain⟨e2,_⟩:=hok' b _ z2;rw[e] at e1;cases e1;exact e2
 cases hk:K.lookup a with
 | some o=>
  have e:=KX a o hk;rw[ha] at e;cases e;refine core (λ _=>none) (λ _=>.inl rfl) (.inr ⟨_,vs.toArray,_,hk,rfl,rfl,rfl,by rw[List.size_toArray,lenV];exact hl,by simpa using rv⟩) (λ b u z=>by have z':(none:Option HO)=some u:=z;cases z') (λ b z=>absurd rfl z) λ z=>absurd rfl z
 | none=>
  refine core (λ b=>if b=a then some (.vd { cls:=.type "list",data:=.seq vs.toArray } (.lst (ns.map V.int))) else none) (λ b=>?_) (.inl (.inr ⟨{ cls:=.type "list",data:=.seq vs.toArray },if_pos rfl⟩)) (λ b u z=>?_) (λ b z=>?_) λ _=>hk
  .by_cases hb:b=a
   .exact .inr ⟨_,_,if_pos hb⟩
   .exact .inl (if_neg hb)
  .by_cases hb:b=a
   .have z':=(if_pos hb).symm.trans z;cases z';subst hb;exact⟨ha,by rw[List.length_map];exact hl,vs,_,rv,ha⟩
   .have z':=(if_neg hb).symm.trans z;cases z'
  .by_cases hb:b=a
   .exact hb
   .exact absurd (if_neg hb) z
end L2
namespace L2
open PySem PySem.Spec PyProof.Rows
theorem W3 {l:PySem.W.OpenLaw}{n k:Nat}{q:Program}{loose:List Str}{XP:(Str->Option Value)->Heap->Prop}{YP:World->Heap->Prop}{d:DefRec}{K:Params->PySem.W.Frag}{CX:World->tX}{sp:World->Sp}{x:Str}
  (hn:l.most=some n) (hn2:n<=sizeLine) (hdf:d.params.defaults=[]) (hr:yS k callerA)
  (hY:∀ (w:World) (h:Heap),YP w h->(K w.params).In h)
  (F:∀ (w:World) (mg:Str->Option Value) (fa:Addr) (h:Heap),(K w.params).In h->h.Ns mainGlobals mg->mg d.name=some (.ref fa)->
   ∃ fd:FuncData,(∀ (s:Shared) (u:Value),BindsTo s fd ⟨[u],[]⟩ [(x,u)])/\
    ∀ base:Heap,(K w.params).In base->base.Ns mainGlobals mg->tw l.prog w (K w.params) mg base (CX w) k fa fd [x] (sp w))
  (hsp:∀ (w:World) (H:Hp) (a:Addr) (ns:List Int),ns.length<=n->jN H->yf (K w.params) H a (ns.map V.int)->sp w [.ref a] H (λ v _=>v=.bl true) λ _ _ _=>False)
  (hCX:∀ (w:World) (H:Hp) (s:Shared) (e:Value) (s':Shared),CX w [] H s (λ _ _ _=>False) e s'->False):
  PySem.W.WalkO q loose XP YP l.row.toRowW d [] (λ f vs=>PySem.call f vs):=by
 refine Wv.Nf hn hdf λ w s₀ s₁ mg mb fa o pm cd doc a vs ns G Y ho hd hcd hmg hobj hints hlen hg=>?_;have KX:=hY w _ Y;obtain⟨fd,hb,hF⟩:=F w mg fa _ KX G.T.g hmg;exact Qr KX G.T.g G.T.b G.T.builtins G.T.nolimit hg hobj hints (Nat.le_trans hlen hn2) hr hF hb (λ H hO hS=>hsp w H a ns hlen hO hS) λ H e s'=>hCX w H s₁ e s'
end L2
namespace L2
open PySem PySem.Spec PyProof.Rows
noncomputable def rF (s:Stmt):Arguments:=match s with
 | .FunctionDef _ a _ _ _ _ _ _ _ _=>a
 | _=>{ posonlyargs:=[],args:=[],vararg:=none,kwonlyargs:=[],kw_defaults:=[],kwarg:=none,defaults:=[] }
noncomputable def vY (s:Stmt):List Stmt:=match s with
 | .FunctionDef _ _ b _ _ _ _ _ _ _=>b
 | _=>[]
noncomputable def zL (s:Stmt):Scope:=match s with
 | .FunctionDef _ _ _ _ _ _ sc _ _ _=>sc
 | _=>{ kind:=.function,names:=[],isGenerator:=false,isCoroutine:=false }
abbrev uh:tX:=λ _ _ _ _ _ _=>False
abbrev E0:XK:=λ _ _ _=>False
theorem TR {X:Cx}:Passes uh X E0:=λ _ _ _ _ _ _ _ h=>h.elim
structure tV (K:PySem.W.Frag) (x qual:Str) (st:Stmt) (f:Addr) (fd:FuncData):Prop where
 ex:∃ (oc:Value) (od:Option Addr) (kV doc pm:Value) (an:Option Addr) (cdv ct:Value) (osl:Array (Option Value)),
  fd=PySem.W.fnOf x qual (rF st) (vY st) (zL st) .none kV doc pm an cdv ct/\K.lookup f=some ⟨oc,od,.func fd,osl⟩/\PySem.W.codeIn K cdv qual=true
 kp:PySem.W.keepIn K (.ref f)=true
section
variable {P:Program}{w:World}{K:PySem.W.Frag}{mg:Str->Option Value}{base:Heap}
theorem tV.ok {x qual:Str}{st:Stmt}{f:Addr}{fd:FuncData}{N ps:List Str}{k:Nat}{sp:Sp}(F:tV K x qual st f fd) (S:yr N ps (zL st)) (len:∀ vs H Q E,sp vs H Q E->vs.length=ps.length)
  (hbody:∀ (cdv:Value) (A:Around) (outer:List Env) (s:Shared) (H:Hp) (vs:List V) (Q:VK) (E:XK),yS k (A.deeper (envOfC qual (zL st) s.heap.objs.size f cdv))->sp vs H Q E->
   ∃ t,wR (sJ uh P w K mg base N qual (zL st) f cdv A outer s H E).qj (vY st) t/\t { nx:=λ _ H'=>Q .zl H',rt:=Q } (start N vs) H):tw P w K mg base uh (k+1) f fd ps sp:=by
 obtain⟨oc,od,kV,doc,pm,an,cdv,ct,osl,rfl,lk,hcd⟩:=F.ex;refine Pf lk hcd S len λ A outer s H vs Q E hr hsp=>?_;obtain⟨t,h,q⟩:=hbody cdv A outer s H vs Q E hr hsp;exact⟨t,h.qj,q⟩
theorem tV.binds {x qual:Str}{st:Stmt}{f:Addr}{fd:FuncData}{ps:List Str}(F:tV K x qual st f fd)
  (h:∀ (kV doc pm:Value) (an:Option Addr) (cdv ct:Value) (us:List Value),us.length=ps.length->bindArgs (PySem.W.fnOf x qual (rF st) (vY st) (zL st) .none kV doc pm an cdv ct) ⟨us,[]⟩=pure (ps.zip us)):Binds K fd ps []:=by
 obtain⟨oc,od,kV,doc,pm,an,cdv,ct,osl,rfl,lk,hcd⟩:=F.ex;exact .all (h kV doc pm an cdv ct)
theorem ZC {x qual:Str}{st:Stmt}{f:Addr}{oc:Value}{od an:Option Addr}{osl:Array (Option Value)}{kV doc pm cdv ct:Value}(l:K.lookup f=some ⟨oc,od,.func (PySem.W.fnOf x qual (rF st) (vY st) (zL st) .none kV doc pm an cdv ct),osl⟩)
  (c:PySem.W.codeIn K cdv qual=true) (k:PySem.W.keepIn K (.ref f)=true):tV K x qual st f (PySem.W.fnOf x qual (rF st) (vY st) (zL st) .none kV doc pm an cdv ct):=⟨⟨oc,od,kV,doc,pm,an,cdv,ct,osl,rfl,l,c⟩,k⟩
end
theorem f9 {A:Around}{k:Nat}(hr:yS k A):A.units+1<cLine:=Nat.lt_of_le_of_lt (Nat.add_le_add_left (by decide:1<=64) _) hr.units
section
variable {X:Cx}
theorem pv (i:Nat) {x:Str}{pos:Pos}(hN:X.N[i]?=some x:=by rfl) (hv:eP X.env.scope x:=by first | exact Or.inl rfl | exact Or.inr (Or.inl rfl) | exact Or.inr (Or.inr rfl)) (hd:(x == ("__debug__":Str))=false:=by decide)
  (hcd:(x == ("__classdict__":Str))=false:=by decide):PE X (.Name x pos) (iw i):=UP hN hv hd hcd
end
end L2
namespace PySem
theorem ez {env:Env}:∀ (l:List (Str×NameKind)) (acc:List (Str×Addr)),(∀ y∈l,y.2=.free->∃ c,env.cells.lookup y.1=some c)->
  ∃ cl,(forIn l acc (λ(x:Str×NameKind) r=>if (x.2 == NameKind.free)=true then do let a <- cellOf env x.1;pure (ForInStep.yield ((x.1,a)::r)) else pure (ForInStep.yield r)):Sem (List (Str×Addr)))=pure cl/\
   (∀ x c,cl.lookup x=some c->acc.lookup x=some c\/((x,NameKind.free)∈l/\env.cells.lookup x=some c))/\(∀ x,(x,NameKind.free)∈l\/(acc.lookup x).isSome->(cl.lookup x).isSome)
 | [],acc,_=>⟨acc,rfl,λ x c h=>.inl h,λ x h=>by simpa using h⟩
 | (n,k)::l,acc,h=>by
  by_cases hk:k=.free
  .subst hk;obtain⟨c,hc⟩:=h (n,.free) zMc rfl;obtain⟨cl,e1,e2,e3⟩:=ez l ((n,c)::acc) λ y hy=>h y (zMo _ hy);refine⟨cl,?_,λ x d hx=>?_,λ x hx=>?_⟩
   .rw[List.forIn_cons];simp only[beq_self_eq_true,if_true,cellOf,hc];exact e1
   .rcases e2 x d hx with q | ⟨q1,q2⟩
    .rw[List.lookup_cons] at q;cases hxn:x == n with
     | true=>
      rw[hxn] at q;have:x=n:=by simpa using hxn
      subst this;refine .inr ⟨zMc,?_⟩;rw[hc];exact q
     | false=>rw[hxn] at q;exact .inl q
    .exact .inr ⟨zMo _ q1,q2⟩
   .refine e3 x ?_;rcases hx with hx | hx
    .rcases List.mem_cons.mp hx with q | q
     .have:x=n:=congrArg Prod.fst q;subst this;exact .inr (by simp[List.lookup_cons])
     .exact .inl q
    .refine .inr ?_;rw[List.lookup_cons];cases x == n <;> simp[hx]
  .have hb:(k == NameKind.free)=false:=by simpa using hk
   obtain⟨cl,e1,e2,e3⟩:=ez l acc λ y hy=>h y (zMo _ hy);refine⟨cl,?_,λ x d hx=>?_,λ x hx=>?_⟩
   .rw[List.forIn_cons];simp only[hb,Bool.false_eq_true,if_false];exact e1
   .rcases e2 x d hx with q | ⟨q1,q2⟩
    .exact .inl q
    .exact .inr ⟨zMo _ q1,q2⟩
   .refine e3 x ?_;rcases hx with hx | hx
    .rcases List.mem_cons.mp hx with q | q
     .exact absurd (congrArg Prod.snd q).symm hk
     .exact .inl q
    .exact .inr hx
theorem Yy {scope:Scope}{env:Env}(h:∀ y∈scope.names,y.2=.free->∃ c,env.cells.lookup y.1=some c):
  ∃ cl,closureFor scope env=pure cl/\(∀ x c,cl.lookup x=some c->(x,NameKind.free)∈scope.names/\env.cells.lookup x=some c)/\∀ x,(x,NameKind.free)∈scope.names->(cl.lookup x).isSome:=by
 obtain⟨cl,e1,e2,e3⟩:=ez (env:=env) scope.names [] h;refine⟨cl,?_,λ x c hx=>?_,λ x hx=>e3 x (.inl hx)⟩
 .simp only[closureFor];rw[e1];rfl
 .rcases e2 x c hx with q | q
  .simp at q
  .exact q
theorem aR {env:Env}:∀ {names:List (Str×NameKind)}{x:Str},names.lookup x=some .free->
  (names.map λ(n,k)=>if (k == NameKind.free&&env.scope.kind == .function&&env.kindOf n == some .cell) then (n,NameKind.cell) else (n,k)).lookup x=some .cell\/
  (names.map λ(n,k)=>if (k == NameKind.free&&env.scope.kind == .function&&env.kindOf n == some .cell) then (n,NameKind.cell) else (n,k)).lookup x=some .free
 | [],_,h=>by simp at h
 | (n,k)::r,x,h=>by
  have ih:=@aR env r x;show List.lookup x ((if (k == NameKind.free&&env.scope.kind == .function&&env.kindOf n == some .cell)=true then (n,NameKind.cell) else (n,k))::_)=_\/List.lookup x ((if (k == NameKind.free&&env.scope.kind == .function&&env.kindOf n == some .cell)=true then (n,NameKind.cell) else (n,k))::_)=_;cases hx:x == n with
  | true=>
   simp only[List.lookup_cons,hx] at h;cases h;by_cases hc:(NameKind.free == NameKind.free&&env.scope.kind == .function&&env.kindOf n == some .cell)=true
   .rw[if_pos hc];simp[List.lookup_cons,hx]
   .rw[if_neg hc];simp[List.lookup_cons,hx]
  | false=>
   simp only[List.lookup_cons,hx] at h;by_cases hc:(k == NameKind.free&&env.scope.kind == .function&&env.kindOf n == some .cell)=true
   .rw[if_pos hc];simp only[List.lookup_cons,hx];exact ih h
   .rw[if_neg hc];simp only[List.lookup_cons,hx];exact ih h
theorem bp {env:Env}:∀ {names:List (Str×NameKind)}{x:Str},(∀ y∈names,y.2≠.cell)->
  ((names.map λ(n,k)=>if (k == NameKind.free&&env.scope.kind == .function&&env.kindOf n == some .cell) then (n,NameKind.cell) else (n,k)).lookup x=some .cell\/
  (names.map λ(n,k)=>if (k == NameKind.free&&env.scope.kind == .function&&env.kindOf n == some .cell) then (n,NameKind.cell) else (n,k)).lookup x=some .free)->(x,NameKind.free)∈names
 | [],_,_,h=>by simp at h
 | (n,k)::r,x,hn,h=>by
  have ih:=@bp env r x λ y hy=>hn y (zMo _ hy);have h':List.lookup x ((if (k == NameKind.free&&env.scope.kind == .function&&env.kindOf n == some .cell)=true then (n,NameKind.cell) else (n,k))::_)=some .cell\/List.lookup x ((if (k == NameKind.free&&env.scope.kind == .function&&env.kindOf n == some .cell)=true then (n,NameKind.cell) else (n,k))::_)=some .free:=h;have hf:∀ k',((if (k == NameKind.free&&env.scope.kind == .function&&env.kindOf n == some .cell)=true then (n,NameKind.cell) else (n,k)):Str×NameKind)=(n,k')->(k'=.cell\/k'=.free)->k=.free:=by
   intro k' e hk';by_cases hc:(k == NameKind.free&&env.scope.kind == .function&&env.kindOf n == some .cell)=true
   .simp only[Bool.and_eq_true] at hc;simpa using hc.1.1
   .rw[if_neg hc] at e;have:k=k':=congrArg Prod.snd e;subst this;rcases hk' with q | q
    .exact absurd q (hn (n,k) zMc)
    .exact q
  cases hx:x == n with
  | true=>
   have hxn:x=n:=by simpa using hx
   subst hxn;by_cases hc:(k == NameKind.free&&env.scope.kind == .function&&env.kindOf x == some .cell)=true
   .simp only[Bool.and_eq_true] at hc;have:k=.free:=by simpa using hc.1.1
    subst this;exact zMc
   .rw[if_neg hc] at h';simp only[List.lookup_cons,beq_self_eq_true] at h';rcases h' with q | q
    .exact absurd (Option.some.inj q) (hn (x,k) zMc)
    .have:=Option.some.inj q;subst this;exact zMc
  | false=>
   refine zMo _ (ih ?_);by_cases hc:(k == NameKind.free&&env.scope.kind == .function&&env.kindOf n == some .cell)=true
   .rw[if_pos hc] at h';simp only[List.lookup_cons,hx] at h';exact h'
   .rw[if_neg hc] at h';simp only[List.lookup_cons,hx] at h';exact h'
end PySem
namespace L2
open PySem PySem.Spec PyProof.Rows
noncomputable def uJ (pick:List (Option Nat)) (σ:St):St:=pick.map λ o=>o.bind λ i=>(σ[i]?).join
noncomputable def xw (X:Cx) (N':List Str) (scope:Scope) (cl:List (Str×Addr)) (C:Addr) (s:Shared) (H:Hp) (ex:List Addr):Cx:=
 { X with N:=N',s₀:=s,H₀:=H,env:=compEnvC scope cl C X.env,outer:=X.stack,stack:=X.stack,ex:=ex,fn:=λ _=>false,pn:=[],xe:=λ _ _=>False }
noncomputable def oq (N N':List Str) (pick:List (Option Nat)) (scope:Scope):Bool:=(N'.zip pick).all λ p=>match p.2 with
 | none=>true
 | some j=>decide (N[j]?=some p.1)&&decide (scope.names.lookup p.1=some .free)
structure pS (X:Cx) (N':List Str) (pick:List (Option Nat)) (scope:Scope):Prop where
 kind:scope.kind=.function
 aH:∀ y∈scope.names,y.2≠.cell
 names:∀ y∈scope.names,y.2=.local->scope.names.lookup y.1=some .local
 free:∀ y∈scope.names,y.2=.free->X.env.scope.names.lookup y.1=some .cell\/X.env.scope.names.lookup y.1=some .free
 len:pick.length=N'.length
 ok:oq X.N N' pick scope=true
theorem oq.get {N N':List Str}{pick:List (Option Nat)}{scope:Scope}(h:oq N N' pick scope=true) {i j:Nat}{x:Str}(h1:N'[i]?=some x) (h2:pick[i]?=some (some j)):N[j]?=some x/\scope.names.lookup x=some .free:=by
 unfold oq at h;have hm:(x,some j)∈N'.zip pick:=by
  refine List.mem_of_getElem? (i:=i) ?_;rw[List.getElem?_zip_eq_some];exact⟨h1,h2⟩
 have q:=List.all_eq_true.mp h _ hm;simp only[Bool.and_eq_true,decide_eq_true_eq] at q;exact q
theorem uJ.get {pick:List (Option Nat)}{σ:St}{i:Nat}{v:V}(h:(uJ pick σ)[i]?=some (some v)):∃ j,pick[i]?=some (some j)/\σ[j]?=some (some v):=by
 unfold uJ at h;rw[List.getElem?_map] at h;cases e:pick[i]? with
 | none=>rw[e] at h;cases h
 | some o=>
  rw[e] at h;cases o with
  | none=>simp at h
  | some j=>
   refine⟨j,rfl,?_⟩;simp only[Option.map_some,Option.some.injEq,Option.bind_some] at h;cases q:σ[j]? with
   | none=>rw[q] at h;simp at h
   | some w=>rw[q] at h;simp at h;rw[h]
def PF (X:Cx) (ifs:List Expr) (t:TT):Prop:=∀ (pins:List (Addr×Obj)) (s:Shared) (σ:St) (H:Hp) (Q:Bool->Hp->Prop),Inv X pins σ H s->t σ H Q->
 wpAny (model X.prog X.w) X.A (forIn ifs true λ c r=>if r=true then do let ok <- isTrue c X.env (eval c X.env);pure (ForInStep.yield ok) else pure (ForInStep.yield r)) (TP X pins σ Q) X.xe s
theorem UN {X:Cx}:PF X [] (λ _ H Q=>Q true H):=λ _ _ _ H _ I h=>wpAny_tests_nil ⟨H,I,h⟩
theorem UM {X:Cx}{c:Expr}{t:TT}(h:PT X c t):PF X [c] t:=λ pins s σ H Q I q=>wpAny_tests_one (h pins s σ H Q I q)
def iz (pick:List (Option Nat)) (wi:TI) (g:TG) (tc:TT) (te:TE):TE:=fun σ H Q=>wi σ H λ J H1=>∀ D,H1 D=none->∃ W:Nat->Nat->St->Hp->Prop,(∃ m,W 0 m (uJ pick σ) (upd H1 D (.lst [])))/\
 ∀ i m σ H,W i m σ H->(J.stop i H/\Q (.ref D) H)\/(J.go i H/\∀ x H',J.pU i H x H'->g x σ H' fun σ2 H2=>tc σ2 H2 λ b H3=>
  if b=true then te σ2 H3 λ y H4=>∃ ys m',H4 D=some (.lst ys)/\ys.length<sizeLine/\m'<m/\W (i+1) m' σ2 (upd H4 D (.lst (ys++[y]))) else ∃ m',m'<m/\W (i+1) m' σ2 H3)
section
variable {X:Cx}{pins:List (Addr×Obj)}{σ:St}{H:Hp}{s:Shared}{N':List Str}{pick:List (Option Nat)}{scope:Scope}{cl:List (Str×Addr)}{C:Addr}{fp:List Addr}
theorem QD (S:pS X N' pick scope) (I:Inv X pins σ H s) (hfp:∀ b∈fp,uE X pins H b) (hlt:∀ b∈fp,b<s.heap.objs.size)
  (c1:∀ x c,cl.lookup x=some c->(x,NameKind.free)∈scope.names/\X.env.cells.lookup x=some c) (c2:∀ x,(x,NameKind.free)∈scope.names->(cl.lookup x).isSome)
  {h1:Heap}{m1:Str->Option Value}{t':Nat}(hC:s.heap.objs.size<C) (old:∀ b o,s.heap.get? b=some o->h1.get? b=some o) (hns:h1.Ns C m1)
  (hD:h1.get? s.heap.objs.size=some { cls:=.type "list",data:=.seq #[] 0 }):
  Inv (xw X N' scope cl C s H fp) [] (uJ pick σ) (upd H s.heap.objs.size (.lst [])) { s with heap:=h1,toks:=t' }:=by
 have hDn:H s.heap.objs.size=none:=I.zJ.fresh (Nat.le_refl _);have hCn:H C=none:=I.zJ.fresh (Nat.le_of_lt hC);have clt:∀ x c,cl.lookup x=some c->c<s.heap.objs.size:=λ x c e=>by
  obtain⟨v,q⟩:=I.cell x c (c1 x c e).2;exact q.lt
 refine⟨⟨I.ok.mod,S.kind,I.ok.glob,I.ok.blt,Nat.le_of_lt hC,λ x y c e1 e2=>I.ok.inj x y c (c1 x c e1).2 (c1 y c e2).2,λ x hx=>?_,λ x c hf _=>absurd (show false=true from hf) Bool.false_ne_true,I.ok.hd,I.ok.frames,.inl rfl,
  λ b hb=>⟨Nat.ne_of_lt (Nat.lt_trans (hlt b hb) hC),λ x c e=>(hfp b hb).2.2.2.2.1 x c (c1 x c e).2⟩,I.bs,Nat.le_trans I.ok.pF I.sz,λ b o e hb=>?_,λ b hb z=>?_,I.stack,I.cG⟩,
  rfl,I.bare,Un.laid old (Nat.le_refl _) hDn,⟨m1,hns,λ i x v e1 e2 e3=>?_⟩,λ x c e=>?_,?_,λ x c e=>?_,λ p hp=>absurd (show p∈([]:List (Addr×Obj)) from hp) (by simp),I.zJ.laid old (Nat.le_refl _) ?_,?_⟩
 .exact Option.isSome_iff_exists.mp (c2 x (bp S.aH hx))
 .rcases (hfp b hb).2.2.2.1 with z | z
  .exact I.ok.mD b o e z
  .exact absurd (Nat.lt_of_lt_of_le (Heap.lt_size (I.ok.bs b o e).1) z) (Nat.lt_irrefl _)
 .rcases List.mem_cons.mp (I.i5 b z) with q | q
  .exact (hfp b hb).2.1 q
  .exact (hfp b hb).2.2.1 q
 .obtain⟨j,p1,p2⟩:=uJ.get e2;obtain⟨q1,q2⟩:=oq.get S.ok e1 p1;obtain⟨m0,n0,l0⟩:=I.loc;have hm:(x,NameKind.free)∈scope.names:=PySem.mem_of_lookup q2;have hk:X.env.scope.names.lookup x=some .cell\/X.env.scope.names.lookup x=some .free:=S.free _ hm rfl;obtain⟨u,r,l⟩:=l0 j x v q1 p2 (.inr hk);refine⟨u,r,.inr ⟨aR q2,?_⟩⟩;rcases l with ⟨k,_⟩ | ⟨_,c,e,z⟩
  .have k':X.env.scope.names.lookup x=some .local:=k;rcases hk with hk | hk <;> (rw[k'] at hk;cases hk)
  .obtain⟨c',e'⟩:=Option.isSome_iff_exists.mp (c2 x hm);have e'':=(c1 x c' e').2;rw[e] at e'';cases e'';obtain⟨o,z1,z2⟩:=z;exact⟨c,e',o,old _ _ z1,z2⟩
 .obtain⟨v,o,z1,z2⟩:=I.cell x c (c1 x c e).2;exact⟨v,o,old _ _ z1,z2⟩
 .show upd H s.heap.objs.size (.lst []) C=none;rw[xg (Nat.ne_of_gt hC)];exact hCn
 .show upd H s.heap.objs.size (.lst []) c=none;rw[xg (Nat.ne_of_lt (clt x c e))];exact I.sD x c (c1 x c e).2
 .exact⟨Nat.zero_le _,[],0,.nil,hD⟩
 .show (uJ pick σ).length=N'.length;unfold uJ;rw[List.length_map];exact S.len
theorem QB {σ':St}{H':Hp}{s':Shared}{oC:Obj}(I:Inv X pins σ H s) (hfp:∀ b∈fp,uE X pins H b) (hC:s.heap.objs.size<C)
  (I':Inv (xw X N' scope cl C s H fp) [] σ' H' s') (hoC:s'.heap.get? C=some oC):Inv X (pins++[(C,oC)]) σ H' s':=by
 have J:Inv X pins σ H' s':=I.OV (ch:=fp) I'.os I'.base I'.zJ I'.bare λ b hb=>⟨(hfp b hb).2.2.2.1,(hfp b hb).2.1,(hfp b hb).2.2.2.2.1,(hfp b hb).2.2.2.2.2⟩;refine J.gC λ p hp=>(List.mem_append.mp hp).elim (λ z=>J.pin p (List.mem_append_right _ z)) λ z=>?_;obtain rfl:p=(C,oC):=List.mem_singleton.mp z;refine⟨hoC,I'.free,Nat.ne_of_gt (Nat.lt_trans I.lt hC),I.aE (Nat.le_of_lt hC),λ v hv=>?_⟩;obtain⟨m,⟨o,es,ep,ho,hd,_⟩,_⟩:=I'.loc;have ho':s'.heap.get? C=some o:=ho;rw[hoC] at ho';cases ho';rw[hd] at hv;cases hv
theorem Zq {σ':St}{H':Hp}{s':Shared}{oC:Obj}{h':Heap}(I:Inv X pins σ H s) (hC:s.heap.objs.size<C) (J:Inv X (pins++[(C,oC)]) σ' H' s') (hs:Heap.SameBut C s'.heap h'):Inv X pins σ' H' { s' with heap:=h' }:=by
 have J':=J.nV;have hp:=J.pin (C,oC) (List.mem_append_right _ (List.mem_append_right _ (List.mem_singleton.mpr rfl)));have lt:∀ c,c<s.heap.objs.size->c≠C:=λ c h=>Nat.ne_of_lt (Nat.lt_trans h hC);refine J'.turned (t':=s'.toks) (it:=C) (λ b o hb e=>hs.extBut b o hb e) hp.2.1 hp.2.2.1 (.inr (Nat.le_trans I.sz (Nat.le_of_lt hC))) (λ x c e z=>?_) (λ p hq z=>?_)
 .obtain⟨v,q⟩:=I.cell x c e;exact lt c q.lt z
 .exact lt p.1 (Heap.lt_size (I.pin p hq).1) z
end
section
variable {X:Cx}{N':List Str}{pick:List (Option Nat)}{scope:Scope}{elt iter tg:Expr}{ifs:List Expr}{pos:Pos}{wi:TI}{g:TG}{tc:TT}{te:TE}
theorem Qn {pins:List (Addr×Obj)}{σ:St}{H:Hp}{s:Shared}{it C:Addr}{fp:List Addr}{tn:Nat->Heap->Prop}{J:It}{cl:List (Str×Addr)}{W:Nat->Nat->St->Hp->Prop}{Q:V->Hp->Prop}{R:Result->Shared->Prop}{D:Addr}
  (hc:X.calm=true) (hg:PG (xw X N' scope cl C s H fp) tg g) (hf:PF (xw X N' scope cl C s H fp) ifs tc) (he:PE (xw X N' scope cl C s H fp) elt te)
  (T:Turn X.prog X.w X.K tg J fp it tn) (hfp:∀ b∈fp,uE X pins H b) (hstat:∀ b∈fp,b≠C/\b∉ux X.stack/\∀ x c,cl.lookup x=some c->c≠b)
  (turn:∀ i m σ H,W i m σ H->(J.stop i H/\Q (.ref D) H)\/(J.go i H/\∀ x H',J.pU i H x H'->g x σ H' fun σ2 H2=>tc σ2 H2 λ b H3=>
   if b=true then te σ2 H3 λ y H4=>∃ ys m',H4 D=some (.lst ys)/\ys.length<sizeLine/\m'<m/\W (i+1) m' σ2 (upd H4 D (.lst (ys++[y]))) else ∃ m',m'<m/\W (i+1) m' σ2 H3))
  (fin:∀ σ' H' s',Inv (xw X N' scope cl C s H fp) [] σ' H' s'->Q (.ref D) H'->R (.ok .next) s')
  {m0:Nat}{σ0:St}{H0:Hp}{s0:Shared}(I0:Inv (xw X N' scope cl C s H fp) [] σ0 H0 s0) (t0:tn 0 s0.heap) (f0:∀ b∈fp,H0 b=none) (w0:W 0 m0 σ0 H0):
  codeAny (model X.prog X.w) X.A (.compLoop (.ListComp elt [⟨tg,iter,ifs,0⟩] scope pos) 0 (.ref it) (.ref D) (compEnvC scope cl C X.env)) R s0:=by
 have stat:∀ {H':Hp},(∀ b∈fp,H' b=none)->∀ b∈fp,uE (xw X N' scope cl C s H fp) [] H' b:=λ hn b hb=>⟨hn b hb,(hstat b hb).1,(hstat b hb).2.1,.inl hb,(hstat b hb).2.2,λ p hp=>absurd (show p∈([]:List (Addr×Obj)) from hp) (by simp)⟩;refine codeAny_loop rfl (λ n s'=>∃ i σ' H',Inv (xw X N' scope cl C s H fp) [] σ' H' s'/\tn i s'.heap/\(∀ b∈fp,H' b=none)/\W i n σ' H') (λ n s3 hI=>?_) m0 ⟨0,σ0,H0,I0,t0,f0,w0⟩;obtain⟨i,σ3,H3,I3,st3,fr3,w3⟩:=hI;show wpAny _ X.A ((compTurn (.ListComp elt [⟨tg,iter,ifs,0⟩] scope pos) 0 (.ref it) (.ref D) (compEnvC scope cl C X.env)).onRaise (λ x=>do noteFrame x (compEnvC scope cl C X.env);theTreesLotGoes x)) _ _ s3;refine wpAny_noted ?_;rw[compTurn_list];refine zWb (wpAny_standAt (zWb ?_));rcases turn i n σ3 H3 w3 with ⟨stop,qn⟩ | ⟨go,step⟩
 .refine zQ (T.done (xw X N' scope cl C s H fp) rfl rfl rfl hc i [] s3 σ3 H3 _ I3 (stat fr3) st3 stop) λ r s4 ⟨hr,I4⟩=>?_;subst hr;exact wpAny_pure (fin σ3 H3 s4 I4 qn)
 .refine zQ (T.item (xw X N' scope cl C s H fp) rfl rfl rfl hc i [] s3 σ3 H3 _ I3 (stat fr3) st3 go) λ r s4 ⟨u,hr,h4⟩=>?_;subst hr;refine zWb (zQ h4 λ _ s5 ⟨x,H5,I5,r5,y5,st5,fr5⟩=>?_);have I5':=I5.pinned (stat fr5) (T.obj _ _ st5);refine zWb (wpAny_mono (hg _ s5 σ3 H5 x u _ I5' r5 (step x H5 y5)) (λ _ s6 ⟨σ6,H6,I6,q6⟩=>?_) λ _ _ z=>False.elim z);refine zWb (wpAny_mono (hf _ s6 σ6 H6 _ I6 q6) (λ ok s7 ⟨H7,I7,q7⟩=>?_) λ _ _ z=>False.elim z);have back:∀ {H8:Hp}{s8:Shared},Inv (xw X N' scope cl C s H fp) ([]++mr fp s5.heap) σ6 H8 s8->(∃ m',m'<n/\W (i+1) m' σ6 H8)->∃ m,m<n/\∃ i σ' H',Inv (xw X N' scope cl C s H fp) [] σ' H' s8/\tn i s8.heap/\(∀ b∈fp,H' b=none)/\W i m σ' H':=λ{H8 s8} I8 ⟨m',hm,w8⟩=>by
   refine⟨m',hm,i+1,σ6,H8,I8.nV,T.keep _ _ _ st5 λ b hb o e=>(I8.pin (b,o) (List.mem_append_right _ (List.mem_append_right _ (kY hb e)))).1,λ b hb=>?_,w8⟩;obtain⟨o,e,d⟩:=T.obj _ _ st5 b hb;exact (I8.pin (b,o) (List.mem_append_right _ (List.mem_append_right _ (kY hb e)))).2.1
  cases ok with
  | false=>
   rw[if_neg Bool.false_ne_true] at q7;exact wpAny_pure ⟨rfl,back I7 q7⟩
  | true=>
   rw[if_pos rfl] at q7;refine zWb (zWb (wpAny_mono (he _ s7 σ6 H7 _ I7 q7) (λ uy s8 ⟨y,H8,I8,r8,ys,m',e8,z8,hm,w8⟩=>?_) λ _ _ z=>False.elim z));refine zWb (wpAny_mono (aN (X:=xw X N' scope cl C s H fp) _ s8 σ6 H8 (.ref D) [y] (.ref D) [uy] (λ _ H9=>W (i+1) m' σ6 H9) I8 rfl (.cons r8 .nil) ⟨D,ys,y,rfl,rfl,e8,z8,w8⟩) (λ _ s9 ⟨_,H9,I9,_,q9⟩=>?_) λ _ _ z=>False.elim z);exact wpAny_pure (wpAny_pure ⟨rfl,back I9 ⟨m',hm,q9⟩⟩)
theorem Zb {pins:List (Addr×Obj)}{σ:St}{H:Hp}{s:Shared}{it:Addr}{fp:List Addr}{tn:Nat->Heap->Prop}{J:It}{cl:List (Str×Addr)}{Q:V->Hp->Prop}{E:Value->Shared->Prop}{RR:Value->Addr->Result->Shared->Prop}
  (S:pS X N' pick scope) (hc:X.calm=true) (hg:∀ cl C s H fp,PG (xw X N' scope cl C s H fp) tg g) (hf:∀ cl C s H fp,PF (xw X N' scope cl C s H fp) ifs tc) (he:∀ cl C s H fp,PE (xw X N' scope cl C s H fp) elt te)
  (c1:∀ x c,cl.lookup x=some c->(x,NameKind.free)∈scope.names/\X.env.cells.lookup x=some c) (c2:∀ x,(x,NameKind.free)∈scope.names->(cl.lookup x).isSome)
  (I:Inv X pins σ H s) (T:Turn X.prog X.w X.K tg J fp it tn) (t0:tn 0 s.heap) (hfp:∀ b∈fp,uE X pins H b)
  (rd:∀ D,H D=none->∃ W:Nat->Nat->St->Hp->Prop,(∃ m,W 0 m (uJ pick σ) (upd H D (.lst [])))/\
   ∀ i m σ H,W i m σ H->(J.stop i H/\Q (.ref D) H)\/(J.go i H/\∀ x H',J.pU i H x H'->g x σ H' fun σ2 H2=>tc σ2 H2 λ b H3=>
    if b=true then te σ2 H3 λ y H4=>∃ ys m',H4 D=some (.lst ys)/\ys.length<sizeLine/\m'<m/\W (i+1) m' σ2 (upd H4 D (.lst (ys++[y]))) else ∃ m',m'<m/\W (i+1) m' σ2 H3))
  (fin:∀ C D oC H' s',s.heap.objs.size<C->Inv X (pins++[(C,oC)]) σ H' s'->s'.heap.get? C=some oC->(∃ m,s'.heap.Ns C m)->Q (.ref D) H'->RR (.ref D) C (.ok .next) s'):
  wpAny (model X.prog X.w) X.A (newList []) (λ acc s₃=>wpAny (model X.prog X.w) X.A (newFunctionEnv scope X.env.globals cl [] X.env.qual none .none (some X.env)) (λ cenv s₄=>
   codeAny (model X.prog X.w) X.A (.compStart (.ListComp elt [⟨tg,iter,ifs,0⟩] scope pos) 0 (.ref it) acc { cenv with scope:=relabel scope X.env }) (RR acc cenv.locals) s₄) E s₃) E s:=by
 refine wpAny_newObj_type (wpAny_newFunctionEnv S.aH (by intro y hy;simp at hy) (λ h₁ hns₁ hsb₁=>?_) S.kind);dsimp only at hns₁ hsb₁ ⊢;generalize hH2:s.heap.push { cls:=.type "list",dict:=none,data:=.seq ([]:List Value).toArray }=H2 at hns₁ hsb₁ ⊢;have hC:H2.objs.size=s.heap.objs.size+1:=by rw[<- hH2,Heap.size_push]
 have hlt:s.heap.objs.size<H2.objs.size:=by rw[hC];exact Nat.lt_succ_self _
 have old:∀ b o,s.heap.get? b=some o->h₁.get? b=some o:=λ b o e=>hsb₁.extBut b o (Nat.ne_of_lt (Nat.lt_trans (Heap.lt_size e) hlt)) (zHp _ (hH2▸zHp _ e));have hacc:h₁.get? s.heap.objs.size=some { cls:=.type "list",data:=.seq #[] 0 }:=hsb₁.extBut _ _ (Nat.ne_of_lt hlt) (zHp _ (hH2▸Heap.get?_push_size _ rfl));have hflt:∀ b∈fp,b<s.heap.objs.size:=λ b hb=>by
  obtain⟨o,e,_⟩:=T.obj _ _ t0 b hb;exact Heap.lt_size e
 have hDn:H s.heap.objs.size=none:=I.zJ.fresh (Nat.le_refl _);obtain⟨W,⟨m0,w0⟩,turn⟩:=rd s.heap.objs.size hDn;have I0:=QD (t':=s.toks+([]:List (Str×Value)).length) S I hfp hflt c1 c2 hlt old hns₁ hacc;have t1:tn 0 h₁:=T.keep _ _ _ t0 λ b _ o e=>old b o e;have hst:∀ b∈fp,b≠H2.objs.size/\b∉ux X.stack/\∀ x c,cl.lookup x=some c->c≠b:=λ b hb=>I0.ok.fU b hb |> λ q=>⟨q.1,I0.ok.mX b hb,q.2⟩
 have loop:codeAny (model X.prog X.w) X.A (.compLoop (.ListComp elt [⟨tg,iter,ifs,0⟩] scope pos) 0 (.ref it) (.ref s.heap.objs.size) (compEnvC scope cl H2.objs.size X.env)) (RR (.ref s.heap.objs.size) H2.objs.size) { s with heap:=h₁,toks:=s.toks+([]:List (Str×Value)).length }:=by
  refine Qn (σ:=σ) hc (hg _ _ _ _ _) (hf _ _ _ _ _) (he _ _ _ _ _) T hfp hst turn (fun σ' H' s' I' q=>?_) I0 t1 (λ b hb=>?_) w0
  .obtain⟨m,hn,_⟩:=I'.loc;have hn':s'.heap.Ns H2.objs.size m:=hn;obtain⟨oC,es,ep,ho,hr⟩:=id hn';exact fin _ _ oC H' s' hlt (QB I hfp hlt I' ho) ho ⟨m,hn'⟩ q
  .show upd H s.heap.objs.size (.lst []) b=none;rw[xg (Nat.ne_of_lt (hflt b hb))];exact (hfp b hb).1
 exact codeAny_compStart_list loop (T.self _ 0 _ _ _ t1 loop)
theorem U_ (S:pS X N' pick scope) (hc:X.calm=true) (hi:PI X tg iter wi) (hg:∀ cl C s H fp,PG (xw X N' scope cl C s H fp) tg g) (hf:∀ cl C s H fp,PF (xw X N' scope cl C s H fp) ifs tc) (he:∀ cl C s H fp,PE (xw X N' scope cl C s H fp) elt te)
  (hs:∀ x,foldedSetIterable iter X.env x=pure x:=by intro _;rfl):PE X (.ListComp elt [⟨tg,iter,ifs,0⟩] scope pos) (iz pick wi g tc te):=by
 intro pins s σ H Q I h;obtain⟨cl,hclos,c1,c2⟩:=Yy (scope:=scope) (env:=X.env) λ y hy hk=>I.ok.has y.1 (S.free y hy hk);rw[eval_ListComp];refine wpAny_comprehension_free (use:=none) rfl hs hclos S.kind S.names (zQ (hi pins s σ H _ I h) λ v s1 h1=>zQ h1 λ itv s2 h2=>?_);obtain⟨it,fp,tn,J,H2,e,I2,T,st2,f2,rd⟩:=h2;subst e;refine Zb (RR:=λ acc C=>compPost (model X.prog X.w) X.A X.xe none (EP X pins σ Q) acc C) S hc hg hf he c1 c2 I2 T st2 f2 rd λ C D oC H' s' hC J' ho hn q=>?_;obtain⟨m,hn⟩:=hn;exact⟨m,hn,λ h' hs'=>⟨.ref D,H',Zq I2 hC J' hs',rfl,q⟩⟩
theorem Ux {i:Nat}{y:Str}{py spos:Pos}(S:pS X N' pick scope) (hc:X.calm=true) (hi:PI X tg iter wi) (hg:∀ cl C s H fp,PG (xw X N' scope cl C s H fp) tg g) (hf:∀ cl C s H fp,PF (xw X N' scope cl C s H fp) ifs tc) (he:∀ cl C s H fp,PE (xw X N' scope cl C s H fp) elt te)
  (hN:X.N.Nodup) (hy:X.N[i]?=some y) (hx:Loc X.env.scope y)
  (hsw:swapsWith (.ListComp elt [⟨tg,iter,ifs,0⟩] scope pos) (some (.Name y py)) spos.line X.env=pure true:=by rfl)
  (hfn:X.fn y=true\/X.env.scope.names.lookup y=some .local:=by first | exact .inl rfl | exact .inr rfl | assumption)
  (hs:∀ x,foldedSetIterable iter X.env x=pure x:=by intro _;rfl):PS X (.Assign [.Name y py] (.ListComp elt [⟨tg,iter,ifs,0⟩] scope pos) spos) (nX (iz pick wi g tc te) (oO i)):=by
 intro pins s σ H Q I h;obtain⟨cl,hclos,c1,c2⟩:=Yy (scope:=scope) (env:=X.env) λ y hy hk=>I.ok.has y.1 (S.free y hy hk);rw[exec_Assign_Name_used _ _ _ _ hsw];refine zWb (wpAny_standAt (zWb ?_));show wpAny _ X.A (do let _ <- comprehension (.ListComp elt [⟨tg,iter,ifs,0⟩] scope pos) scope X.env _ (newList []) false (eval iter X.env) (some (assign (.Name y py) X.env))) _ _ s;refine zWb (wpAny_mono (wpAny_comprehension_free (use:=some (assign (.Name y py) X.env)) (Q:=λ _ s'=>SP X pins Q .next s') rfl hs hclos S.kind S.names
  (zQ (hi pins s σ H _ I h) λ v s1 h1=>zQ h1 λ itv s2 h2=>?_)) (λ _ s' hq=>wpAny_pure (wpAny_pure hq)) λ _ _ e=>e)
 obtain⟨it,fp,tn,J,H2,e,I2,T,st2,f2,rd⟩:=h2;subst e;refine Zb (Q:=λ x H1=>oO i x σ H1 Q.nx) (RR:=λ acc C=>compPost (model X.prog X.w) X.A X.xe (some (assign (.Name y py) X.env)) (λ _ s'=>SP X pins Q .next s') acc C) S hc hg hf he c1 c2 I2 T st2 f2 rd λ C D oC H' s' hC J' ho hn q=>?_;show wpAny _ X.A (assign (.Name y py) X.env (.ref D)) _ _ _;refine wpAny_assign_Name (i4 J' hN hy hx (v:=.ref D) rfl (λ s3 J3=>?_) hfn);have hp:=(J3.pin (C,oC) (List.mem_append_right _ (List.mem_append_right _ (List.mem_singleton.mpr rfl)))).1;obtain⟨m,o,es,ep,ho',hr⟩:=hn;have:o=oC:=Option.some.inj (ho'.symm.trans ho);subst this;exact⟨m,⟨o,es,ep,hp,hr⟩,λ h' hs'=>⟨_,H',Zq I2 hC J3 hs',q⟩⟩
end
end L2
namespace L3
open PySem PySem.Spec L2
open PyProof.Rows hiding St
inductive D where
 | zl | bl (b:Bool) | int (i:Int) | str (x:Str) | tup (ds:List D) | xb (ds:List D) | ref (a:Addr)
def nh (K:PySem.W.Frag) (H:Hp) (a:Addr) (xs:List V):Prop:=
 (∃ o,H a=some (.vd o (.lst xs)))\/
  ∃ (o:Obj) (its:Array Value) (n:Nat),K.lookup a=some o/\o.cls=.type "list"/\o.dict=none/\o.data=.seq its n/\its.size<=sizeLine/\Vals xs its.toList
theorem nh.sq {K:PySem.W.Frag}{H:Hp}{a:Addr}{xs:List V}(h:nh K H a xs):yf K H a xs:=by
 rcases h with h | h
 .exact .inl (.inr h)
 .exact .inr h
mutual
noncomputable def zk (K:PySem.W.Frag) (H:Hp):D->V->Prop
 | .zl,v=>v=.zl
 | .bl b,v=>v=.bl b
 | .int i,v=>v=.int i
 | .str x,v=>v=.str x
 | .tup ds,v=>∃ a xs,v=.ref a/\ym K H a xs/\zv K H ds xs
 | .xb ds,v=>∃ a xs,v=.ref a/\nh K H a xs/\zv K H ds xs
 | .ref a,v=>v=.ref a
noncomputable def zv (K:PySem.W.Frag) (H:Hp):List D->List V->Prop
 | [],xs=>xs=[]
 | d::ds,xs=>∃ x r,xs=x::r/\zk K H d x/\zv K H ds r
end
structure Ext (H H':Hp):Prop where
 tup:∀ b xs,H b=some (.tup xs)->H' b=some (.tup xs)
 vd:∀ b o u,H b=some (.vd o u)->H' b=some (.vd o u)
theorem Ext.refl (H:Hp):Ext H H:=⟨λ _ _ h=>h,λ _ _ _ h=>h⟩
theorem Ext.trans {H H1 H2:Hp}(a:Ext H H1) (b:Ext H1 H2):Ext H H2:=⟨λ c xs h=>b.tup c xs (a.tup c xs h),λ c o u h=>b.vd c o u (a.vd c o u h)⟩
theorem Ext.new {H:Hp}{p:Addr}(h:H p=none) (o:HO):Ext H (upd H p o):=
 ⟨λ b xs q=>by rw[xg (ql q h)];exact q,λ b ob u q=>by rw[xg (ql q h)];exact q⟩
theorem Ext.lst {H:Hp}{p:Addr}{xs:List V}(h:H p=some (.lst xs)) (o:HO):Ext H (upd H p o):=
 ⟨λ b ys q=>by rw[xg (mF q h (by intro z;cases z))];exact q,λ b ob u q=>by rw[xg (mF q h (by intro z;cases z))];exact q⟩
theorem Ext.kh {K:PySem.W.Frag}{H H':Hp}{a:Addr}{xs:List V}(e:Ext H H') (h:ym K H a xs):ym K H' a xs:=by
 rcases h with (h | ⟨o,h⟩) | h
 .exact .inl (.inl (e.tup _ _ h))
 .exact .inl (.inr ⟨o,e.vd _ _ _ h⟩)
 .exact .inr h
theorem Ext.ki {K:PySem.W.Frag}{H H':Hp}{a:Addr}{xs:List V}(e:Ext H H') (h:nh K H a xs):nh K H' a xs:=by
 rcases h with ⟨o,h⟩ | h
 .exact .inl ⟨o,e.vd _ _ _ h⟩
 .exact .inr h
section
variable {K:PySem.W.Frag}{H H':Hp}
mutual
theorem zk.ext (e:Ext H H'):∀ (d:D) {v:V},zk K H d v->zk K H' d v
 | .zl,v,h=>by simpa only [zk] using h
 | .bl b,v,h=>by simpa only [zk] using h
 | .int i,v,h=>by simpa only [zk] using h
 | .str x,v,h=>by simpa only [zk] using h
 | .ref a,v,h=>by simpa only [zk] using h
 | .tup ds,v,h=>by
  simp only[zk] at h ⊢;obtain⟨a,xs,h1,h2,h3⟩:=h;exact⟨a,xs,h1,e.kh h2,zv.ext e ds h3⟩
 | .xb ds,v,h=>by
  simp only[zk] at h ⊢;obtain⟨a,xs,h1,h2,h3⟩:=h;exact⟨a,xs,h1,e.ki h2,zv.ext e ds h3⟩
theorem zv.ext (e:Ext H H'):∀ (ds:List D) {xs:List V},zv K H ds xs->zv K H' ds xs
 | [],xs,h=>by simpa only [zv] using h
 | d::ds,xs,h=>by
  simp only[zv] at h ⊢;obtain⟨x,r,h1,h2,h3⟩:=h;exact⟨x,r,h1,zk.ext e d h2,zv.ext e ds h3⟩
end
theorem zv.length:∀ {ds:List D}{xs:List V},zv K H ds xs->ds.length=xs.length
 | [],xs,h=>by simp only[zv] at h;subst h;rfl
 | d::ds,xs,h=>by
  simp only[zv] at h;obtain⟨x,r,h1,_,h3⟩:=h;subst h1;simp[zv.length h3]
theorem zv.get:∀ {ds:List D}{xs:List V}{i:Nat}{d:D},zv K H ds xs->ds[i]?=some d->∃ x,xs[i]?=some x/\zk K H d x
 | [],_,i,d,_,e=>by simp at e
 | c::ds,xs,i,d,h,e=>by
  simp only[zv] at h;obtain⟨x,r,h1,h2,h3⟩:=h;subst h1;cases i with
  | zero=>simp at e;subst e;exact⟨x,rfl,h2⟩
  | succ i=>
   obtain⟨y,e1,e2⟩:=zv.get (i:=i) h3 (by simpa using e);exact⟨y,by simpa using e1,e2⟩
theorem zv.append:∀ {ds es:List D}{xs ys:List V},zv K H ds xs->zv K H es ys->zv K H (ds++es) (xs++ys)
 | [],es,xs,ys,h,h'=>by simp only[zv] at h;subst h;simpa using h'
 | d::ds,es,xs,ys,h,h'=>by
  simp only[zv] at h;obtain⟨x,r,h1,h2,h3⟩:=h;subst h1;show zv K H (d::(ds++es)) (x::(r++ys));simp only[zv];exact⟨x,r++ys,rfl,h2,zv.append h3 h'⟩
theorem zv.nil:zv K H [] []:=by simp only[zv]
theorem zv.cons {d:D}{ds:List D}{x:V}{xs:List V}(h:zk K H d x) (h':zv K H ds xs):zv K H (d::ds) (x::xs):=by
 simp only[zv];exact⟨x,xs,rfl,h,h'⟩
theorem zv.snoc {d:D}{ds:List D}{x:V}{xs:List V}(h':zv K H ds xs) (h:zk K H d x):zv K H (ds++[d]) (xs++[x]):=h'.append (.cons h .nil)
theorem zv.ints:∀ {ns:List Int}{xs:List V},zv K H (ns.map D.int) xs->xs=ns.map V.int
 | [],xs,h=>by simpa only [List.map_nil,zv] using h
 | n::ns,xs,h=>by
  rw[List.map_cons] at h;simp only[zv,zk] at h;obtain⟨x,r,h1,h2,h3⟩:=h;subst h1 h2;rw[List.map_cons,zv.ints h3]
theorem zv.gM:∀ (ns:List Int),zv K H (ns.map D.int) (ns.map V.int)
 | []=>.nil
 | n::ns=>.cons (by simp only[zk]) (zv.gM ns)
theorem zv.bools:∀ {ns:List Bool}{xs:List V},zv K H (ns.map D.bl) xs->xs=ns.map V.bl
 | [],xs,h=>by simpa only [List.map_nil,zv] using h
 | n::ns,xs,h=>by
  rw[List.map_cons] at h;simp only[zv,zk] at h;obtain⟨x,r,h1,h2,h3⟩:=h;subst h1 h2;rw[List.map_cons,zv.bools h3]
end
inductive O where
 | lst (ds:List D)
 | yy (kvs:List (Key×D))
abbrev SS:=Addr->Option O
def xF (K:PySem.W.Frag) (H:Hp):List (Key×D)->List (Key×V)->Prop:=Paired λ p q=>p.1=q.1/\zk K H p.2 q.2
noncomputable def pN (K:PySem.W.Frag) (H:Hp) (a:Addr):O->Prop
 | .lst ds=>∃ xs,H a=some (.lst xs)/\zv K H ds xs
 | .yy kvs=>∃ vs,H a=some (.dK vs)/\xF K H kvs vs
def z_ (K:PySem.W.Frag) (H:Hp) (S:SS):Prop:=∀ a o,S a=some o->pN K H a o
noncomputable def ups (S:SS) (a:Addr) (o:O):SS:=λ b=>if b=a then some o else S b
theorem rV {S:SS}{a:Addr}{o:O}:ups S a o a=some o:=by unfold ups;rw[if_pos rfl]
theorem sY {S:SS}{a b:Addr}{o:O}(h:b≠a):ups S a o b=S b:=by unfold ups;rw[if_neg h]
def Sx (S S':SS):Prop:=∀ b o,S b=some o->S' b=some o
theorem Sx.refl (S:SS):Sx S S:=λ _ _ h=>h
theorem Sx.trans {S S1 S2:SS}(a:Sx S S1) (b:Sx S1 S2):Sx S S2:=λ c o h=>b c o (a c o h)
theorem Sx.new {S:SS}{p:Addr}(h:S p=none) (o:O):Sx S (ups S p o):=λ b u q=>by
 rw[sY (by intro z;subst z;rw[h] at q;cases q)];exact q
theorem Sx.none {S S':SS}(e:Sx S S') {p:Addr}(h:S' p=Option.none):S p=Option.none:=by
 cases q:S p with
 | none=>rfl
 | some o=>rw[e p o q] at h;cases h
section
variable {K:PySem.W.Frag}{H H':Hp}{S:SS}
theorem pN.has {a:Addr}{o:O}(h:pN K H a o):H a≠none:=by
 cases o with
 | lst ds=>obtain⟨xs,h,_⟩:=h;rw[h];simp
 | yy kvs=>obtain⟨xs,h,_⟩:=h;rw[h];simp
theorem z_.none (r:z_ K H S) {p:Addr}(h:H p=Option.none):S p=Option.none:=by
 cases q:S p with
 | none=>rfl
 | some o=>exact absurd h (r p o q).has
theorem xF.ext (e:Ext H H') {kvs:List (Key×D)}{vs:List (Key×V)}(h:xF K H kvs vs):xF K H' kvs vs:=
 Paired.k_ h λ p q z=>⟨z.1,zk.ext e p.2 z.2⟩
theorem pN.keep {a:Addr}{o:O}(e:Ext H H') (k:∀ u,H a=some u->H' a=some u) (h:pN K H a o):pN K H' a o:=by
 cases o with
 | lst ds=>obtain⟨xs,h1,h2⟩:=h;exact⟨xs,k _ h1,zv.ext e ds h2⟩
 | yy kvs=>obtain⟨xs,h1,h2⟩:=h;exact⟨xs,k _ h1,h2.ext e⟩
theorem z_.keep (e:Ext H H') (k:∀ a u o,S a=some o->H a=some u->H' a=some u) (r:z_ K H S):z_ K H' S:=λ a o h=>(r a o h).keep e λ u q=>k a u o h q
theorem z_.new {p:Addr}{u:HO}(hp:H p=Option.none) (r:z_ K H S):z_ K (upd H p u) S:=
 r.keep (Ext.new hp u) λ a v o _ q=>by rw[xg (ql q hp)];exact q
theorem z_.ups {p:Addr}{u:HO}{o:O}(e:Ext H (upd H p u)) (hn:pN K (upd H p u) p o) (r:z_ K H S):z_ K (upd H p u) (ups S p o):=λ a o' h=>by
 by_cases ha:a=p
 .subst ha;rw[rV] at h;cases h;exact hn
 .rw[sY ha] at h;exact (r a o' h).keep e λ v q=>by rw[xg ha];exact q
end
abbrev yz:=List (Option D)
def xp (K:PySem.W.Frag) (H:Hp) (δ:yz) (σ:St):Prop:=δ.length=σ.length/\∀ (i:Nat) (d:D),δ[i]?=some (some d)->∃ v,σ[i]?=some (some v)/\zk K H d v
theorem xp.ext {K:PySem.W.Frag}{H H':Hp}{δ:yz}{σ:St}(e:Ext H H') (r:xp K H δ σ):xp K H' δ σ:=⟨r.1,λ i d h=>by
 obtain⟨v,h1,h2⟩:=r.2 i d h;exact⟨v,h1,zk.ext e d h2⟩⟩
theorem xp.set {K:PySem.W.Frag}{H:Hp}{δ:yz}{σ:St}(i:Nat) {d:D}{v:V}(r:xp K H δ σ) (h:zk K H d v):xp K H (δ.set i (some d)) (σ.set i (some v)):=by
 refine⟨by rw[List.length_set,List.length_set];exact r.1,λ j c hc=>?_⟩;rw[List.getElem?_set] at hc ⊢;by_cases hj:i=j
 .subst hj;rw[if_pos rfl] at hc ⊢;by_cases hl:i < δ.length
  .rw[if_pos hl] at hc;rw[if_pos (by rw[<- r.1];exact hl)];cases hc;exact⟨v,rfl,h⟩
  .rw[if_neg hl] at hc;cases hc
 .rw[if_neg hj] at hc ⊢;exact r.2 j c hc
abbrev DK:=D->SS->Prop
abbrev zH:=yz->SS->DK->Prop
abbrev yZ:=yz->SS->(Bool->SS->Prop)->Prop
abbrev yK:=yz->SS->(List D->SS->Prop)->Prop
def y6 (t:zH):Prop:=∀ δ S (Q Q':DK),(∀ d S',Q d S'->Q' d S')->t δ S Q->t δ S Q'
def v8 (t:yZ):Prop:=∀ δ S (Q Q':Bool->SS->Prop),(∀ d S',Q d S'->Q' d S')->t δ S Q->t δ S Q'
def rM (t:yK):Prop:=∀ δ S (Q Q':List D->SS->Prop),(∀ d S',Q d S'->Q' d S')->t δ S Q->t δ S Q'
noncomputable def vm (K:PySem.W.Frag) (H:Hp) (Q:VK):DK:=λ d S'=>∀ v H',zk K H' d v->Ext H H'->z_ K H' S'->Q v H'
def lh (K:PySem.W.Frag) (H:Hp) (Q:Bool->Hp->Prop):Bool->SS->Prop:=λ b S'=>∀ H',Ext H H'->z_ K H' S'->Q b H'
def PN (K:PySem.W.Frag) (H:Hp) (Q:List V->Hp->Prop):List D->SS->Prop:=λ ds S'=>∀ vs H',zv K H' ds vs->Ext H H'->z_ K H' S'->Q vs H'
def vK (K:PySem.W.Frag) (H:Hp) (Q:St->Hp->Prop):yz->SS->Prop:=fun δ S'=>∀ σ H',xp K H' δ σ->Ext H H'->z_ K H' S'->Q σ H'
theorem vm.ext {K:PySem.W.Frag}{H H':Hp}{Q:VK}(e:Ext H H') {d:D}{S:SS}(h:vm K H Q d S):vm K H' Q d S:=λ v H2 r x q=>h v H2 r (e.trans x) q
theorem lh.ext {K:PySem.W.Frag}{H H':Hp}{Q:Bool->Hp->Prop}(e:Ext H H') {d:Bool}{S:SS}(h:lh K H Q d S):lh K H' Q d S:=λ H2 x q=>h H2 (e.trans x) q
theorem vK.ext {K:PySem.W.Frag}{H H':Hp}{Q:St->Hp->Prop}(e:Ext H H') {d:yz}{S:SS}(h:vK K H Q d S):vK K H' Q d S:=λ v H2 r x q=>h v H2 r (e.trans x) q
def yd (K:PySem.W.Frag) (t:zH):TE:=fun σ H Q=>∃ δ S,xp K H δ σ/\z_ K H S/\t δ S (vm K H Q)
def vg (K:PySem.W.Frag) (t:yZ):TT:=fun σ H Q=>∃ δ S,xp K H δ σ/\z_ K H S/\t δ S (lh K H Q)
def vA (K:PySem.W.Frag) (t:yK):TA:=fun σ H Q=>∃ δ S,xp K H δ σ/\z_ K H S/\t δ S (PN K H Q)
structure PD (X:Cx) (e:Expr) (t:zH):Prop where
 mo:y6 t
 pe:PE X e (yd X.K t)
structure wj (X:Cx) (e:Expr) (t:yZ):Prop where
 mo:v8 t
 pt:PT X e (vg X.K t)
structure wH (X:Cx) (es:List Expr) (t:yK):Prop where
 mo:rM t
 pa:PA X es (vA X.K t)
theorem PE.imp {X:Cx}{e:Expr}{t t':TE}(h:PE X e t) (hi:∀ σ H Q,t' σ H Q->t σ H Q):PE X e t':=λ pins s σ H Q I q=>h pins s σ H Q I (hi σ H Q q)
theorem PT.imp {X:Cx}{e:Expr}{t t':TT}(h:PT X e t) (hi:∀ σ H Q,t' σ H Q->t σ H Q):PT X e t':=λ pins s σ H Q I q=>h pins s σ H Q I (hi σ H Q q)
theorem PA.imp {X:Cx}{e:List Expr}{t t':TA}(h:PA X e t) (hi:∀ σ H Q,t' σ H Q->t σ H Q):PA X e t':=λ pos pins s σ H Q I q=>h pos pins s σ H Q I (hi σ H Q q)
theorem PS.imp {X:Cx}{e:Stmt}{t t':TS}(h:PS X e t) (hi:∀ D σ H,t' D σ H->t D σ H):PS X e t':=λ pins s σ H Q I q=>h pins s σ H Q I (hi Q σ H q)
theorem wR.imp {X:Cx}{e:List Stmt}{t t':TS}(h:wR X e t) (hi:∀ D σ H,t' D σ H->t D σ H):wR X e t':=λ pins s σ H Q I q=>h pins s σ H Q I (hi Q σ H q)
section
variable {X:Cx}{K:PySem.W.Frag}
theorem yd.go {t:zH}{σ:St}{H:Hp}{Q:VK}{δ:yz}{S:SS}{R:DK}(mo:y6 t) (r1:xp K H δ σ) (r2:z_ K H S) (h:t δ S R) (k:∀ d S' v H',R d S'->zk K H' d v->Ext H H'->z_ K H' S'->Q v H'):yd K t σ H Q:=
 ⟨δ,S,r1,r2,mo δ S _ _ (λ d S' q v H' a b c=>k d S' v H' q a b c) h⟩
theorem vg.go {t:yZ}{σ:St}{H:Hp}{Q:Bool->Hp->Prop}{δ:yz}{S:SS}{R:Bool->SS->Prop}(mo:v8 t) (r1:xp K H δ σ) (r2:z_ K H S) (h:t δ S R) (k:∀ d S' H',R d S'->Ext H H'->z_ K H' S'->Q d H'):vg K t σ H Q:=
 ⟨δ,S,r1,r2,mo δ S _ _ (λ d S' q H' b c=>k d S' H' q b c) h⟩
theorem vA.go {t:yK}{σ:St}{H:Hp}{Q:List V->Hp->Prop}{δ:yz}{S:SS}{R:List D->SS->Prop}(mo:rM t) (r1:xp K H δ σ) (r2:z_ K H S) (h:t δ S R) (k:∀ d S' v H',R d S'->zv K H' d v->Ext H H'->z_ K H' S'->Q v H'):vA K t σ H Q:=
 ⟨δ,S,r1,r2,mo δ S _ _ (λ d S' q v H' a b c=>k d S' v H' q a b c) h⟩
def yY (i:Nat):zH:=fun δ S Q=>match δ[i]? with
 | some (some d)=>Q d S
 | _=>False
def dC (d:D):zH:=λ _ S Q=>Q d S
theorem za (i:Nat) {x:Str}{pos:Pos}(h:PE X (.Name x pos) (iw i)):PD X (.Name x pos) (yY i):=by
 refine⟨fun δ S Q Q' hq h=>?_,PE.imp h fun σ H Q hu=>?_⟩
 .unfold yY at h ⊢;split at h
  .exact hq _ _ h
  .exact h
 .obtain⟨δ,S,r1,r2,h⟩:=hu;unfold yY at h;split at h
  .rename_i d e;obtain⟨v,h1,h2⟩:=r1.2 i d e;exact⟨v,h1,h v H h2 (Ext.refl H) r2⟩
  .exact h.elim
theorem dC.mo (d:D):y6 (dC d):=λ _ _ _ _ hq h=>hq _ _ h
theorem m7 {e:Expr}{d:D}{v:V}(h:PE X e (tC v)) (r:∀ H,zk X.K H d v):PD X e (dC d):=
 ⟨dC.mo d,PE.imp h λ _ H _ ⟨_,_,_,r2,h⟩=>h v H (r H) (Ext.refl H) r2⟩
theorem zh {i j pos}:PD X (.Constant (.int i) j pos) (dC (.int i)):=m7 Tb λ _=>by simp only[zk]
theorem sj {i j pos}:PD X (.Constant (.bool i) j pos) (dC (.bl i)):=m7 Tp λ _=>by simp only[zk]
theorem t8 {j pos}:PD X (.Constant .none j pos) (dC .zl):=m7 UY λ _=>by simp only[zk]
theorem kH {x j pos}:PD X (.Constant (.str x) j pos) (dC (.str x)):=m7 US λ _=>by simp only[zk]
abbrev xq:=D->D->SS->DK->Prop
def w9 (f:xq):Prop:=∀ x y S (Q Q':DK),(∀ d S',Q d S'->Q' d S')->f x y S Q->f x y S Q'
def xY (K:PySem.W.Frag) (f:xq) (r:R2):Prop:=∀ x y d e H S Q,zk K H d x->zk K H e y->z_ K H S->f d e S (vm K H Q)->r x y H Q
def yD (f:xq) (ta tb:zH):zH:=fun δ S Q=>ta δ S λ x S1=>tb δ S1 λ y S2=>f x y S2 Q
theorem yD.mo {f:xq}{ta tb:zH}(hf:w9 f) (ha:y6 ta) (hb:y6 tb):y6 (yD f ta tb):=fun δ S Q Q' hq h=>
 ha δ S _ _ (λ x S1 h=>hb δ S1 _ _ (λ y S2 h=>hf x y S2 _ _ hq h) h) h
theorem lZ {f:xq}{r:R2}{ta tb:zH}(hr:xY K f r) (hf:w9 f) (ha:y6 ta) (hb:y6 tb) {σ:St}{H:Hp}{Q:VK}(h:yd K (yD f ta tb) σ H Q):nW r (yd K ta) (yd K tb) σ H Q:=by
 obtain⟨δ,S,r1,r2,h⟩:=h;refine yd.go ha r1 r2 h λ x S1 v H1 h1 q1 e1 p1=>?_;refine yd.go hb (r1.ext e1) p1 h1 λ y S2 w H2 h2 q2 e2 p2=>?_;exact hr v w x y H2 S2 Q (zk.ext e2 x q1) q2 p2 (hf x y S2 _ _ (λ d S' z=>z.ext (e1.trans e2)) h2)
theorem o3 {a b:Expr}{op:Operator}{pos:Pos}{f:xq}{r:R2}{ta tb:zH}(ho:y4 X (binaryOp op) r) (hr:xY X.K f r) (hf:w9 f) (ha:PD X a ta) (hb:PD X b tb):PD X (.BinOp a op b pos) (yD f ta tb):=
 ⟨yD.mo hf ha.mo hb.mo,PE.imp (UU ho ha.pe hb.pe) λ _ _ _ h=>lZ hr hf ha.mo hb.mo h⟩
theorem kK {a b:Expr}{op:CmpOp}{pos:Pos}{f:xq}{r:R2}{ta tb:zH}(ho:y4 X (compareOp op) r) (hr:xY X.K f r) (hf:w9 f) (ha:PD X a ta) (hb:PD X b tb) (hm:behindInMarks op b=false):PD X (.Compare a [op] [b] pos) (yD f ta tb):=
 ⟨yD.mo hf ha.mo hb.mo,PE.imp (Th ho ha.pe hb.pe hm) λ _ _ _ h=>lZ hr hf ha.mo hb.mo h⟩
def vZ (t:zH):yZ:=fun δ S Q=>t δ S λ x S1=>match x with
 | .bl b=>Q b S1
 | _=>False
theorem vZ.mo {t:zH}(h:y6 t):v8 (vZ t):=fun δ S Q Q' hq q=>h δ S _ _ (λ d S' z=>by
 cases d <;> first
  | exact hq _ _ z
  | exact z) q
theorem rm {a b:Expr}{op:CmpOp}{pos:Pos}{f:xq}{r:R2}{ta tb:zH}(ho:y4 X (compareOp op) r) (hr:xY X.K f r) (hf:w9 f) (ha:PD X a ta) (hb:PD X b tb) (hm:behindInMarks op b=false):wj X (.Compare a [op] [b] pos) (vZ (yD f ta tb)):=by
 refine⟨vZ.mo (yD.mo hf ha.mo hb.mo),PT.imp (Us ho ha.pe hb.pe hm) fun σ H Q h=>?_⟩;obtain⟨δ,S,r1,r2,h⟩:=h;refine lZ hr hf ha.mo hb.mo ⟨δ,S,r1,r2,yD.mo hf ha.mo hb.mo δ S _ _ (λ d S' z v H' a b c=>?_) h⟩;cases d with
 | bl k=>simp only[zk] at a;exact⟨k,a,z H' b c⟩
 | zl=>exact z.elim
 | int _=>exact z.elim
 | str _=>exact z.elim
 | tup _=>exact z.elim
 | xb _=>exact z.elim
 | ref _=>exact z.elim
def fI (C:Int->Int->Prop) (g:Int->Int->D):xq:=λ x y S Q=>match x,y with
 | .int i,.int j=>C i j/\Q (g i j) S
 | _,_=>False
theorem fI.mo {C:Int->Int->Prop}{g:Int->Int->D}:w9 (fI C g):=λ x y S Q Q' hq h=>by
 unfold fI at h ⊢;split at h
 .exact⟨h.1,hq _ _ h.2⟩
 .exact h.elim
def xV (g:Int->Int->D):xq:=λ x y S Q=>match x,y with
 | .int i,.int j=>Q (g i j) S
 | _,_=>False
theorem xV.mo {g:Int->Int->D}:w9 (xV g):=λ x y S Q Q' hq h=>by
 unfold xV at h ⊢;split at h
 .exact hq _ _ h
 .exact h.elim
theorem fI.fits {C:Int->Int->Prop}{g:Int->Int->D}{g':Int->Int->V}(hg:∀ i j H,zk K H (g i j) (g' i j)):xY K (fI C g) (rI C g'):=λ x y d e H S Q h1 h2 h3 h=>by
 unfold fI at h;split at h
 .simp only[zk] at h1 h2;exact⟨_,_,h1,h2,h.1,h.2 _ H (hg _ _ H) (Ext.refl H) h3⟩
 .exact h.elim
theorem xV.fits {g:Int->Int->D}{g':Int->Int->V}(hg:∀ i j H,zk K H (g i j) (g' i j)):xY K (xV g) (vC g'):=λ x y d e H S Q h1 h2 h3 h=>by
 unfold xV at h;split at h
 .simp only[zk] at h1 h2;exact⟨_,_,h1,h2,h _ H (hg _ _ H) (Ext.refl H) h3⟩
 .exact h.elim
variable {a b c:Expr}{ta tb tc:zH}{pos:Pos}
theorem vO (ha:PD X a ta) (hb:PD X b tb):PD X (.BinOp a .Sub b pos) (yD (xV λ i j=>.int (i-j)) ta tb):=o3 TX (xV.fits λ _ _ _=>by simp only[zk]) xV.mo ha hb
theorem xc (ha:PD X a ta) (hb:PD X b tb):PD X (.BinOp a .Mod b pos) (yD (fI (λ _ j=>0<j) λ i j=>.int (i%j)) ta tb):=o3 Se (fI.fits λ _ _ _=>by simp only[zk]) fI.mo ha hb
theorem wJ (ha:PD X a ta) (hb:PD X b tb):PD X (.BinOp a .FloorDiv b pos) (yD (fI wI λ i j=>.int (i/j)) ta tb):=o3 So (fI.fits λ _ _ _=>by simp only[zk]) fI.mo ha hb
theorem T4 (ha:PD X a ta) (hb:PD X b tb):PD X (.BinOp a .Pow b pos) (yD (fI pT λ i j=>.int (i ^ j.toNat)) ta tb):=o3 TY (fI.fits λ _ _ _=>by simp only[zk]) fI.mo ha hb
abbrev jo:xq:=xV λ i j=>.bl (decide (i<=j))
abbrev fS:xq:=xV λ i j=>.bl (decide (j<i))
abbrev jq:xq:=xV λ i j=>.bl (decide (j<=i))
theorem fit_le:xY K jo (vC λ i j=>.bl (decide (i<=j))):=xV.fits λ _ _ _=>by simp only[zk]
theorem Pk:xY K fS (vC λ i j=>.bl (decide (j<i))):=xV.fits λ _ _ _=>by simp only[zk]
theorem ZG:xY K jq (vC λ i j=>.bl (decide (j<=i))):=xV.fits λ _ _ _=>by simp only[zk]
theorem b_ (ha:PD X a ta) (hb:PD X b tb):PD X (.Compare a [.GtE] [b] pos) (yD jq ta tb):=kK ao ZG xV.mo ha hb (uM _)
theorem Tr (ha:PD X a ta) (hb:PD X b tb):wj X (.Compare a [.LtE] [b] pos) (vZ (yD jo ta tb)):=rm gJ fit_le xV.mo ha hb (uM _)
theorem gF (ha:PD X a ta) (hb:PD X b tb):wj X (.Compare a [.Gt] [b] pos) (vZ (yD fS ta tb)):=rm Sk Pk xV.mo ha hb (uM _)
theorem my (ha:PD X a ta) (hb:PD X b tb):wj X (.Compare a [.GtE] [b] pos) (vZ (yD jq ta tb)):=rm ao ZG xV.mo ha hb (uM _)
end
end L3
namespace L3
open PySem PySem.Spec L2
open PyProof.Rows hiding St
section
variable {X:Cx}{K:PySem.W.Frag}{a b c:Expr}{ta tb tc:zH}{pos:Pos}
def ly (ta tb:zH):zH:=fun δ S Q=>ta δ S λ x S1=>match x with
 | .bl k=>if k=true then tb δ S1 Q else Q (.bl false) S1
 | _=>False
def lq (ta:zH):zH:=fun δ S Q=>ta δ S λ x S1=>match x with
 | .bl k=>Q (.bl (!k)) S1
 | _=>False
theorem vH {c:Prop} [Decidable c] {A B A' B':Prop}(h1:A->A') (h2:B->B') (h:if c then A else B):if c then A' else B':=by
 by_cases q:c
 .rw[if_pos q] at h ⊢;exact h1 h
 .rw[if_neg q] at h ⊢;exact h2 h
theorem ly.mo (ha:y6 ta) (hb:y6 tb):y6 (ly ta tb):=fun δ S Q Q' hq h=>ha δ S _ _ (λ x S1 z=>by
 cases x <;> first
  | exact vH (hb δ S1 _ _ hq) (hq _ _) z
  | exact z) h
theorem lq.mo (ha:y6 ta):y6 (lq ta):=fun δ S Q Q' hq h=>ha δ S _ _ (λ x S1 z=>by
 cases x <;> first
  | exact hq _ _ z
  | exact z) h
theorem o4 {op} {t:zH}(h:PD X a t):PD X (.BoolOp op [a] pos) t:=⟨h.mo,UW h.pe⟩
variable {rest:List Expr}
theorem o5 (ha:PD X a ta) (hb:PD X (.BoolOp .And (b::rest) pos) tb):PD X (.BoolOp .And (a::b::rest) pos) (ly ta tb):=by
 refine⟨ly.mo ha.mo hb.mo,PE.imp (Tq ha.pe hb.pe) fun σ H Q hu=>?_⟩;obtain⟨δ,S,r1,r2,h⟩:=hu;refine yd.go ha.mo r1 r2 h λ x S1 v H1 h1 q1 e1 p1=>?_;cases x with
 | bl k=>
  simp only[zk] at q1;refine⟨k,q1,vH (λ z=>?_) (λ z=>?_) h1⟩
  .exact yd.go hb.mo (r1.ext e1) p1 z λ y S2 w H2 h2 q2 e2 p2=>h2 w H2 q2 (e1.trans e2) p2
  .exact z _ H1 (by simp only[zk]) e1 p1
 | zl=>exact h1.elim
 | int _=>exact h1.elim
 | str _=>exact h1.elim
 | tup _=>exact h1.elim
 | xb _=>exact h1.elim
 | ref _=>exact h1.elim
theorem bU (ha:PD X a ta):PD X (.UnaryOp .Not a pos) (lq ta):=by
 refine⟨lq.mo ha.mo,PE.imp (UX ha.pe) fun σ H Q hu=>?_⟩;obtain⟨δ,S,r1,r2,h⟩:=hu;refine yd.go ha.mo r1 r2 h λ x S1 v H1 h1 q1 e1 p1=>?_;cases x with
 | bl k=>
  simp only[zk] at q1;exact⟨k,q1,h1 _ H1 (by simp only[zk]) e1 p1⟩
 | zl=>exact h1.elim
 | int _=>exact h1.elim
 | str _=>exact h1.elim
 | tup _=>exact h1.elim
 | xb _=>exact h1.elim
 | ref _=>exact h1.elim
def lb (t u:yZ):yZ:=fun δ S Q=>t δ S λ k S1=>if k=true then u δ S1 Q else Q false S1
def mZ (t u:yZ):yZ:=fun δ S Q=>t δ S λ k S1=>if k=true then Q true S1 else u δ S1 Q
def m_ (t:yZ):yZ:=fun δ S Q=>t δ S λ k S1=>Q (!k) S1
variable {t u:yZ}
theorem lb.mo (h:v8 t) (h':v8 u):v8 (lb t u):=fun δ S _ _ hq z=>h δ S _ _ (λ k S1 z=>vH (h' δ S1 _ _ hq) (hq _ _) z) z
theorem mZ.mo (h:v8 t) (h':v8 u):v8 (mZ t u):=fun δ S _ _ hq z=>h δ S _ _ (λ k S1 z=>vH (hq _ _) (h' δ S1 _ _ hq) z) z
theorem m_.mo (h:v8 t):v8 (m_ t):=fun δ S _ _ hq z=>h δ S _ _ (λ k S1 z=>hq _ _ z) z
structure wg (X:Cx) (e:Expr) (t:yZ):Prop where
 mo:v8 t
 pw:PW X e (vg X.K t)
theorem PW.imp {e:Expr}{t t':TT}(h:PW X e t) (hi:∀ σ H Q,t' σ H Q->t σ H Q):PW X e t':=λ whole pins s σ H Q I q=>h whole pins s σ H Q I (hi σ H Q q)
theorem wg.pt {e:Expr}{t:yZ}(h:wg X e t):wj X e t:=⟨h.mo,PW.pt h.pw⟩
theorem ou (h:wj X a t):wg X (.BoolOp .And [a] pos) t:=⟨h.mo,Uk h.pt⟩
theorem qd (h:wj X a t):wg X (.BoolOp .Or [a] pos) t:=⟨h.mo,Ui h.pt⟩
theorem ox (ha:wj X a t) (hb:wg X (.BoolOp .And (b::rest) pos) u):wg X (.BoolOp .And (a::b::rest) pos) (lb t u):=by
 refine⟨lb.mo ha.mo hb.mo,PW.imp (Ul ha.pt hb.pw) fun σ H Q hu=>?_⟩;obtain⟨δ,S,r1,r2,h⟩:=hu;refine vg.go ha.mo r1 r2 h λ k S1 H1 h1 e1 p1=>vH (λ z=>?_) (λ z=>z H1 e1 p1) h1;exact vg.go hb.mo (r1.ext e1) p1 z λ y S2 H2 h2 e2 p2=>h2 H2 (e1.trans e2) p2
theorem uo (ha:wj X a t) (hb:wg X (.BoolOp .Or (b::rest) pos) u):wg X (.BoolOp .Or (a::b::rest) pos) (mZ t u):=by
 refine⟨mZ.mo ha.mo hb.mo,PW.imp (Uj ha.pt hb.pw) fun σ H Q hu=>?_⟩;obtain⟨δ,S,r1,r2,h⟩:=hu;refine vg.go ha.mo r1 r2 h λ k S1 H1 h1 e1 p1=>vH (λ z=>z H1 e1 p1) (λ z=>?_) h1;exact vg.go hb.mo (r1.ext e1) p1 z λ y S2 H2 h2 e2 p2=>h2 H2 (e1.trans e2) p2
theorem se (ha:wj X a t):wj X (.UnaryOp .Not a pos) (m_ t):=by
 refine⟨m_.mo ha.mo,PT.imp (Ur ha.pt) fun σ H Q hu=>?_⟩;obtain⟨δ,S,r1,r2,h⟩:=hu;exact vg.go ha.mo r1 r2 h λ k S1 H1 h1 e1 p1=>h1 H1 e1 p1
def lu (t:yZ) (ta tb:zH):zH:=fun δ S Q=>t δ S λ k S1=>if k=true then ta δ S1 Q else tb δ S1 Q
theorem lu.mo (h:v8 t) (ha:y6 ta) (hb:y6 tb):y6 (lu t ta tb):=fun δ S _ _ hq z=>h δ S _ _ (λ k S1 z=>vH (ha δ S1 _ _ hq) (hb δ S1 _ _ hq) z) z
theorem TB (hc:wj X c t) (ha:PD X a ta) (hb:PD X b tb):PD X (.IfExp c a b pos) (lu t ta tb):=by
 refine⟨lu.mo hc.mo ha.mo hb.mo,PE.imp (Tc hc.pt ha.pe hb.pe) fun σ H Q hu=>?_⟩;obtain⟨δ,S,r1,r2,h⟩:=hu;refine vg.go hc.mo r1 r2 h λ k S1 H1 h1 e1 p1=>vH (λ z=>?_) (λ z=>?_) h1
 .exact yd.go ha.mo (r1.ext e1) p1 z λ y S2 w H2 h2 q2 e2 p2=>h2 w H2 q2 (e1.trans e2) p2
 .exact yd.go hb.mo (r1.ext e1) p1 z λ y S2 w H2 h2 q2 e2 p2=>h2 w H2 q2 (e1.trans e2) p2
def uj (d:D) (S:SS) (Q:Bool->SS->Prop):Prop:=match d with
 | .zl=>Q false S
 | .bl k=>Q k S
 | .int i=>Q (i != 0) S
 | .str x=>x.length<=sizeLine/\Q ((x.length:Int) != 0) S
 | .tup ds=>Q (!ds.isEmpty) S
 | .xb ds=>Q (!ds.isEmpty) S
 | .ref p=>match S p with
  | some (.lst ds)=>Q (!ds.isEmpty) S
  | some (.yy kvs)=>Q (!kvs.isEmpty) S
  | none=>False
def ZW (ta:zH):yZ:=fun δ S Q=>ta δ S λ x S1=>uj x S1 Q
theorem uj.mo {d:D}{S:SS}{Q Q':Bool->SS->Prop}(hq:∀ k S',Q k S'->Q' k S') (h:uj d S Q):uj d S Q':=by
 cases d with
 | str x=>exact⟨h.1,hq _ _ h.2⟩
 | ref p=>
  unfold uj at h ⊢;dsimp only at h ⊢;split at h
  .exact hq _ _ h
  .exact hq _ _ h
  .exact h
 | _=>exact hq _ _ h
theorem zv.isEmpty {H:Hp}{ds:List D}{xs:List V}(h:zv K H ds xs):ds.isEmpty=xs.isEmpty:=by
 have:=h.length;cases ds <;> cases xs <;> simp_all
theorem Nt {α β:Type}{F:α->β->Prop}{xs:List α}{ys:List β}(h:Paired F xs ys):xs.isEmpty=ys.isEmpty:=by cases h <;> rfl
theorem uj.fits {H:Hp}{d:D}{v:V}{S:SS}{Q:Bool->Hp->Prop}(r:zk K H d v) (p:z_ K H S) (h:uj d S (lh K H Q)):∃ k,eR K v H k/\Q k H:=by
 cases d with
 | zl=>simp only[zk] at r;subst r;exact⟨false,rfl,h H (.refl H) p⟩
 | bl k=>simp only[zk] at r;subst r;exact⟨k,rfl,h H (.refl H) p⟩
 | int i=>simp only[zk] at r;subst r;exact⟨_,rfl,h H (.refl H) p⟩
 | str x=>simp only[zk] at r;subst r;exact⟨_,⟨h.1,rfl⟩,h.2 H (.refl H) p⟩
 | tup ds=>
  simp only[zk] at r;obtain⟨a,xs,rfl,r1,r2⟩:=r;exact⟨_,.inr (.inl ⟨xs,r1,by rw[r2.isEmpty]⟩),h H (.refl H) p⟩
 | xb ds=>
  simp only[zk] at r;obtain⟨a,xs,rfl,r1,r2⟩:=r;exact⟨_,.inl ⟨xs,r1.sq,by rw[r2.isEmpty]⟩,h H (.refl H) p⟩
 | ref a=>
  simp only[zk] at r;subst r;unfold uj at h;dsimp only at h;split at h
  .rename_i ds e;obtain⟨xs,e1,r2⟩:=p a _ e;exact⟨_,.inl ⟨xs,yf.of e1,by rw[r2.isEmpty]⟩,h H (.refl H) p⟩
  .rename_i kvs e;obtain⟨xs,e1,r2⟩:=p a _ e;exact⟨_,.inr (.inr ⟨xs,e1,by rw[Nt r2]⟩),h H (.refl H) p⟩
  .exact h.elim
theorem vN (ha:PD X a ta) (he:∀ whole,isTrue a X.env whole=(do let v <- whole;standAt a.pos;holding [v] (truthy v)):=by intro _;rfl):wj X a (ZW ta):=by
 refine⟨fun δ S Q Q' hq h=>ha.mo δ S _ _ (λ x S1 z=>uj.mo hq z) h,PT.imp (Uq ha.pe he) fun σ H Q hu=>?_⟩;obtain⟨δ,S,r1,r2,h⟩:=hu;refine yd.go ha.mo r1 r2 h λ x S1 v H1 h1 q1 e1 p1=>?_;exact uj.fits q1 p1 (uj.mo (λ k S' z=>z.ext e1) h1)
def jt:yK:=λ _ S Q=>Q [] S
def pB (te:zH) (tr:yK):yK:=fun δ S Q=>te δ S λ x S1=>tr δ S1 λ xs S2=>Q (x::xs) S2
variable {e:Expr}{es:List Expr}{te:zH}{tA:yK}
theorem pB.mo (h:y6 te) (h':rM tA):rM (pB te tA):=fun δ S _ _ hq z=>h δ S _ _ (λ x S1 z=>h' δ S1 _ _ (λ xs S2 z=>hq _ _ z) z) z
theorem zr:wH X [] jt:=⟨λ _ _ _ _ hq h=>hq _ _ h,PA.imp o6 fun σ H Q ⟨_,_,_,r2,h⟩=>h [] H .nil (.refl H) r2⟩
theorem zf (ha:PD X e te) (hr:wH X es tA) (hs:starEach (e::es) X.env=(false,eval e X.env)::starEach es X.env:=by rfl):wH X (e::es) (pB te tA):=by
 refine⟨pB.mo ha.mo hr.mo,PA.imp (qY ha.pe hr.pa hs) fun σ H Q hu=>?_⟩;obtain⟨δ,S,r1,r2,h⟩:=hu;refine yd.go ha.mo r1 r2 h λ x S1 v H1 h1 q1 e1 p1=>?_;refine vA.go hr.mo (r1.ext e1) p1 h1 λ xs S2 w H2 h2 q2 e2 p2=>?_;exact h2 (v::w) H2 (.cons (zk.ext e2 x q1) q2) (e1.trans e2) p2
def Yi (t:yK):zH:=fun δ S Q=>t δ S λ ds S1=>ds.length<=sizeLine/\Q (.tup ds) S1
def Yn (t:yK):zH:=fun δ S Q=>t δ S λ ds S1=>ds.length<=sizeLine/\∀ p,S1 p=none->Q (.ref p) (ups S1 p (.lst ds))
theorem xh {k} (h:wH X es tA):PD X (.Tuple es k pos) (Yi tA):=by
 refine⟨fun δ S _ _ hq z=>h.mo δ S _ _ (λ ds S1 z=>⟨z.1,hq _ _ z.2⟩) z,PE.imp (UR h.pa) fun σ H Q hu=>?_⟩;obtain⟨δ,S,r1,r2,h'⟩:=hu;refine vA.go h.mo r1 r2 h' λ ds S1 xs H1 h1 q1 e1 p1=>⟨by rw[<- q1.length];exact h1.1,λ p hp=>?_⟩;refine h1.2 _ _ ?_ (e1.trans (.new hp _)) (p1.new hp);simp only[zk];exact⟨p,xs,rfl,ym.of xa,zv.ext (.new hp _) ds q1⟩
theorem w_ (h:wH X es tA):PD X (.List es pos) (Yn tA):=by
 refine⟨fun δ S _ _ hq z=>h.mo δ S _ _ (λ ds S1 z=>⟨z.1,λ p hp=>hq _ _ (z.2 p hp)⟩) z,PE.imp (UZ h.pa) fun σ H Q hu=>?_⟩;obtain⟨δ,S,r1,r2,h'⟩:=hu;refine vA.go h.mo r1 r2 h' λ ds S1 xs H1 h1 q1 e1 p1=>⟨by rw[<- q1.length];exact h1.1,λ p hp=>?_⟩;refine h1.2 p (p1.none hp) _ _ (by simp only[zk]) (e1.trans (.new hp _)) ?_;exact p1.ups (.new hp _) ⟨xs,xa,zv.ext (.new hp _) ds q1⟩
def vk:xq:=λ x y S Q=>match x,y with
 | .tup ds,.int i=>match yh ds i with
  | some d=>Q d S
  | none=>False
 | .xb ds,.int i=>match yh ds i with
  | some d=>Q d S
  | none=>False
 | .ref p,.int i=>match S p with
  | some (.lst ds)=>match yh ds i with
   | some d=>Q d S
   | none=>False
  | _=>False
 | _,_=>False
theorem vk.mo:w9 vk:=λ x y S Q Q' hq h=>by
 unfold vk at h ⊢;split at h
 .skip
  split at h
  .exact hq _ _ h
  .exact h
 .skip
  split at h
  .exact hq _ _ h
  .exact h
 .skip
  split at h
  .skip
   split at h
   .exact hq _ _ h
   .exact h
  .exact h.elim
 .exact h.elim
theorem zv.yh {H:Hp}{ds:List D}{xs:List V}{i:Int}{d:D}(h:zv K H ds xs) (e:L2.yh ds i=some d):∃ x,L2.yh xs i=some x/\zk K H d x:=by
 unfold L2.yh at e ⊢;rw[h.length] at e;cases q:wL xs.length i with
 | none=>rw[q] at e;cases e
 | some j=>
  rw[q] at e;exact h.get e
theorem vk.fits:xY K vk (b7 K):=λ x y d e H S Q h1 h2 h3 h=>by
 unfold vk at h;split at h
 .split at h
  .rename_i q;simp only[zk] at h1 h2;obtain⟨a,xs,rfl,r1,r2⟩:=h1;obtain⟨x',e1,e2⟩:=r2.yh q;exact .inr (.inl ⟨a,xs,_,x',rfl,h2,r1,e1,h x' H e2 (.refl H) h3⟩)
  .exact h.elim
 .split at h
  .rename_i q;simp only[zk] at h1 h2;obtain⟨a,xs,rfl,r1,r2⟩:=h1;obtain⟨x',e1,e2⟩:=r2.yh q;exact .inl ⟨a,xs,_,x',rfl,h2,r1.sq,e1,h x' H e2 (.refl H) h3⟩
  .exact h.elim
 .split at h
  .rename_i q0;split at h
   .rename_i q;simp only[zk] at h1 h2;subst h1;obtain⟨xs,r1,r2⟩:=h3 _ _ q0;obtain⟨x',e1,e2⟩:=r2.yh q;exact .inl ⟨_,xs,_,x',rfl,h2,yf.of r1,e1,h x' H e2 (.refl H) h3⟩
   .exact h.elim
  .exact h.elim
 .exact h.elim
theorem zE (ha:PD X a ta) (hb:PD X b tb) (hs:YW b:=by exact λ _ _=>rfl):PD X (.Subscript a b pos) (yD vk ta tb):=
 ⟨yD.mo vk.mo ha.mo hb.mo,PE.imp (Ta Q4 ha.pe hb.pe hs) λ _ _ _ h=>lZ vk.fits vk.mo ha.mo hb.mo h⟩
abbrev w6:=List D->SS->DK->Prop
def uC (f:w6):Prop:=∀ ds S (Q Q':DK),(∀ d S',Q d S'->Q' d S')->f ds S Q->f ds S Q'
def tW (K:PySem.W.Frag) (f:w6) (r:List V->Hp->VK->Prop):Prop:=∀ xs ds H S Q,zv K H ds xs->z_ K H S->f ds S (vm K H Q)->r xs H Q
def wy (f:w6) (t:yK):zH:=fun δ S Q=>t δ S λ ds S1=>f ds S1 Q
theorem wy.mo {f:w6}(hf:uC f) (h:rM tA):y6 (wy f tA):=fun δ S _ _ hq z=>h δ S _ _ (λ ds S1 z=>hf ds S1 _ _ hq z) z
theorem c6 {f:w6}{r:List V->Hp->VK->Prop}(hf:uC f) (hr:tW K f r) (h:rM tA) {σ:St}{H:Hp}{Q:VK}(hu:yd K (wy f tA) σ H Q):kd r (vA K tA) σ H Q:=by
 obtain⟨δ,S,r1,r2,h'⟩:=hu;refine vA.go h r1 r2 h' λ ds S1 xs H1 h1 q1 e1 p1=>?_;exact hr xs ds H1 S1 Q q1 p1 (hf ds S1 _ _ (λ d S' z=>z.ext e1) h1)
theorem sg {f:w6}{r:List V->Hp->VK->Prop}{e:Expr}(h:PE X e (kd r (vA X.K tA))) (hf:uC f) (hr:tW X.K f r) (ha:rM tA):PD X e (wy f tA):=
 ⟨wy.mo hf ha,PE.imp h λ _ _ _ hu=>c6 hf hr ha hu⟩
noncomputable def yw (d:D) (S:SS):Option (List D):=match d with
 | .tup ds=>some ds
 | .xb ds=>some ds
 | .ref p=>match S p with
  | some (.lst ds)=>some ds
  | _=>none
 | _=>none
theorem yw.sq {H:Hp}{S:SS}{d:D}{v:V}{ds:List D}(r:zk K H d v) (p:z_ K H S) (e:yw d S=some ds):∃ a xs,v=.ref a/\(yf K H a xs\/ym K H a xs)/\zv K H ds xs:=by
 unfold yw at e;split at e
 .cases e;simp only[zk] at r;obtain⟨a,xs,h1,h2,h3⟩:=r;exact⟨a,xs,h1,.inr h2,h3⟩
 .cases e;simp only[zk] at r;obtain⟨a,xs,h1,h2,h3⟩:=r;exact⟨a,xs,h1,.inl h2.sq,h3⟩
 .split at e
  .rename_i q;cases e;simp only[zk] at r;subst r;obtain⟨xs,h1,h2⟩:=p _ _ q;exact⟨_,xs,rfl,.inl (yf.of h1),h2⟩
  .cases e
 .cases e
theorem zv.one {H:Hp}{d:D}{xs:List V}(h:zv K H [d] xs):∃ x,xs=[x]/\zk K H d x:=by
 simp only[zv] at h;obtain⟨x,r,rfl,h2,rfl⟩:=h;exact⟨x,rfl,h2⟩
theorem zv.two {H:Hp}{d d':D}{xs:List V}(h:zv K H [d,d'] xs):∃ x y,xs=[x,y]/\zk K H d x/\zk K H d' y:=by
 simp only[zv] at h;obtain⟨x,r,rfl,h2,y,r',rfl,h3,rfl⟩:=h;exact⟨x,y,rfl,h2,h3⟩
def uS:w6:=λ ds S Q=>match ds with
 | [d]=>match yw d S with
  | some ds=>Q (.int ds.length) S
  | none=>match d with
   | .str z=>z.length<=sizeLine/\Q (.int z.length) S
   | _=>False
 | _=>False
theorem uS.mo:uC uS:=λ ds S Q Q' hq h=>by
 unfold uS at h ⊢;split at h
 .skip
  split at h
  .exact hq _ _ h
  .split at h
   .exact⟨h.1,hq _ _ h.2⟩
   .exact h.elim
 .exact h.elim
abbrev Uh (K:PySem.W.Frag):List V->Hp->VK->Prop:=λ xs H Q=>(∃ p ys,xs=[.ref p]/\(yf K H p ys\/ym K H p ys)/\Q (.int ys.length) H)\/(∃ z,xs=[.str z]/\z.length<=sizeLine/\Q (.int z.length) H)
theorem uS.fits:tW K uS (Uh K):=λ xs ds H S Q h0 h2 h=>by
 unfold uS at h;split at h
 .obtain⟨x,hx,h1⟩:=h0.one;subst hx;split at h
  .rename_i e;obtain⟨a,ys,rfl,q,r⟩:=yw.sq h1 h2 e;refine .inl ⟨a,ys,rfl,q,?_⟩;rw[<- r.length];exact h _ H (by simp only[zk]) (.refl H) h2
  .split at h
   .simp only[zk] at h1;subst h1;exact .inr ⟨_,rfl,h.1,h.2 _ H (by simp only[zk]) (.refl H) h2⟩
   .exact h.elim
 .exact h.elim
def uR:w6:=λ ds S Q=>match ds with
 | [d]=>match yw d S with
  | some ds=>∀ p,S p=none->Q (.ref p) (ups S p (.lst ds))
  | none=>False
 | _=>False
theorem uR.mo:uC uR:=λ ds S Q Q' hq h=>by
 unfold uR at h ⊢;split at h
 .skip
  split at h
  .exact λ p hp=>hq _ _ (h p hp)
  .exact h.elim
 .exact h.elim
theorem uR.fits:tW K uR (λ xs H Q=>∃ p ys,xs=[.ref p]/\(yf K H p ys\/ym K H p ys)/\∀ l,H l=none->Q (.ref l) (upd H l (.lst ys))):=λ xs ds H S Q h0 h2 h=>by
 unfold uR at h;split at h
 .obtain⟨x,hx,h1⟩:=h0.one;subst hx;split at h
  .rename_i e;obtain⟨a,ys,rfl,q,r⟩:=yw.sq h1 h2 e;refine⟨a,ys,rfl,q,λ l hl=>?_⟩;exact h l (h2.none hl) _ _ (by simp only[zk]) (.new hl _) (h2.ups (.new hl _) ⟨ys,xa,zv.ext (.new hl _) _ r⟩)
  .exact h.elim
 .exact h.elim
def uQ:w6:=λ ds S Q=>match ds with
 | [.tup ds]=>Q (.tup ds) S
 | [.xb ds]=>Q (.tup ds) S
 | [.ref p]=>match S p with
  | some (.lst ds)=>Q (.tup ds) S
  | _=>False
 | _=>False
theorem uQ.mo:uC uQ:=λ ds S Q Q' hq h=>by
 unfold uQ at h ⊢;split at h
 .exact hq _ _ h
 .exact hq _ _ h
 .skip
  split at h
  .exact hq _ _ h
  .exact h.elim
 .exact h.elim
theorem uQ.fits:tW K uQ (λ xs H Q=>∃ p ys,xs=[.ref p]/\((yf K H p ys/\∀ l,H l=none->Q (.ref l) (upd H l (.tup ys)))\/(ym K H p ys/\Q (.ref p) H))):=λ xs ds H S Q h0 h2 h=>by
 unfold uQ at h;split at h
 .obtain⟨x,hx,h1⟩:=h0.one;subst hx;have h1':=h1;simp only[zk] at h1;obtain⟨a,xs,rfl,r1,r2⟩:=h1;exact⟨a,xs,rfl,.inr ⟨r1,h _ H h1' (.refl H) h2⟩⟩
 .obtain⟨x,hx,h1⟩:=h0.one;subst hx;simp only[zk] at h1;obtain⟨a,xs,rfl,r1,r2⟩:=h1;refine⟨a,xs,rfl,.inl ⟨r1.sq,λ l hl=>h _ _ ?_ (.new hl _) (h2.new hl)⟩⟩;simp only[zk];exact⟨l,xs,rfl,ym.of xa,zv.ext (.new hl _) _ r2⟩
 .obtain⟨x,hx,h1⟩:=h0.one;subst hx;split at h
  .rename_i e;simp only[zk] at h1;subst h1;obtain⟨xs,r1,r2⟩:=h2 _ _ e;refine⟨_,xs,rfl,.inl ⟨yf.of r1,λ l hl=>h _ _ ?_ (.new hl _) (h2.new hl)⟩⟩;simp only[zk];exact⟨l,xs,rfl,ym.of xa,zv.ext (.new hl _) _ r2⟩
  .exact h.elim
 .exact h.elim
def u0 (g:Int->Int->D):w6:=λ ds S Q=>match ds with
 | [.int i,.int j]=>Q (g i j) S
 | _=>False
theorem u0.mo {g:Int->Int->D}:uC (u0 g):=λ ds S Q Q' hq h=>by
 unfold u0 at h ⊢;split at h
 .exact hq _ _ h
 .exact h.elim
theorem u0.fits {g:Int->Int->D}{g':Int->Int->V}(hg:∀ i j H,zk K H (g i j) (g' i j)):tW K (u0 g) (λ xs H Q=>∃ i j,xs=[.int i,.int j]/\Q (g' i j) H):=λ xs ds H S Q h0 h2 h=>by
 unfold u0 at h;split at h
 .obtain⟨x,y,hx,h1,h3⟩:=h0.two;subst hx;simp only[zk] at h1 h3;subst h1 h3;exact⟨_,_,rfl,h _ H (hg _ _ H) (.refl H) h2⟩
 .exact h.elim
def zad:xq:=λ x y S Q=>match x,y with
 | .ref p,.ref q=>match S p,S q with
  | some (.lst ds),some (.lst es)=>ds.length+es.length<=sizeLine/\∀ r,S r=none->Q (.ref r) (ups S r (.lst (ds++es)))
  | _,_=>False
 | _,_=>False
def qA (to te:zH):zH:=fun δ S Q=>to δ S λ x S1=>match x with
 | .ref p=>(∃ ds,S1 p=some (.lst ds))/\te δ S1 λ y S2=>match S2 p with
  | some (.lst ds)=>ds.length<sizeLine/\Q .zl (ups S2 p (.lst (ds++[y])))
  | _=>False
 | _=>False
theorem qA.mo {to te:zH}(h:y6 to) (h':y6 te):y6 (qA to te):=fun δ S Q Q' hq z=>h δ S _ _ (λ x S1 z=>by
 cases x with
 | ref p=>
  refine⟨z.1,h' δ S1 _ _ (λ y S2 w=>?_) z.2⟩;split at w
  .exact⟨w.1,hq _ _ w.2⟩
  .exact w.elim
 | _=>exact z) z
theorem TN {o e:Expr}{to te:zH}{e0:Expr}(hpe:PE X e0 (i3 X.K "list" bD (yd X.K to) (i0 (yd X.K te) iy))) (h:y6 to) (h':y6 te):PD X e0 (qA to te):=by
 refine⟨qA.mo h h',PE.imp hpe fun σ H Q hu=>?_⟩;obtain⟨δ,S,r1,r2,z⟩:=hu;refine yd.go h r1 r2 z λ x S1 v H1 h1 q1 e1 p1=>?_;cases x with
 | ref p=>
  obtain⟨⟨ds,hd⟩,h1⟩:=h1;simp only[zk] at q1;subst q1;obtain⟨xs,g1,g2⟩:=p1 _ _ hd;refine⟨.inl ⟨rfl,xs,yf.of g1⟩,?_⟩;refine yd.go h' (r1.ext e1) p1 h1 λ y S2 w H2 h2 q2 e2 p2=>?_;split at h2
  .rename_i ds' e3;obtain⟨xs',g3,g4⟩:=p2 _ _ e3;refine⟨p,xs',w,rfl,rfl,g3,by rw[<- g4.length];exact h2.1,?_⟩;have e4:Ext H2 (upd H2 p (.lst (xs'++[w]))):=.lst g3 _;exact h2.2 _ _ (by simp only[zk]) ((e1.trans e2).trans e4) (p2.ups e4 ⟨_,xa,zv.ext e4 _ (g4.snoc q2)⟩)
  .exact h2.elim
 | zl=>exact h1.elim
 | bl _=>exact h1.elim
 | int _=>exact h1.elim
 | str _=>exact h1.elim
 | tup _=>exact h1.elim
 | xb _=>exact h1.elim
end
structure qJ where
 nx:yz->SS->Prop
 rt:DK
 bk:yz->SS->Prop:=λ _ _=>False
 ct:yz->SS->Prop:=λ _ _=>False
abbrev xx:=qJ->yz->SS->Prop
structure qJ.Le (E E':qJ):Prop where
 nx:∀ δ S,E.nx δ S->E'.nx δ S
 rt:∀ d S,E.rt d S->E'.rt d S
 bk:∀ δ S,E.bk δ S->E'.bk δ S
 ct:∀ δ S,E.ct δ S->E'.ct δ S
def sT (t:xx):Prop:=∀ E E' δ S,qJ.Le E E'->t E δ S->t E' δ S
noncomputable def sI (K:PySem.W.Frag) (H:Hp) (D:Ends):qJ:=⟨vK K H D.nx,vm K H D.rt,vK K H D.bk,vK K H D.ct⟩
theorem sI.ext {K:PySem.W.Frag}{H H':Hp}{D:Ends}(e:Ext H H'):(sI K H D).Le (sI K H' D):=⟨λ _ _ h=>vK.ext e h,λ _ _ h=>vm.ext e h,λ _ _ h=>vK.ext e h,λ _ _ h=>vK.ext e h⟩
def ip (K:PySem.W.Frag) (t:xx):TS:=λ D σ H=>∃ δ S,xp K H δ σ/\z_ K H S/\t (sI K H D) δ S
structure ud (X:Cx) (st:Stmt) (t:xx):Prop where
 mo:sT t
 ps:PS X st (ip X.K t)
structure tq (X:Cx) (st:List Stmt) (t:xx):Prop where
 mo:sT t
 ps:wR X st (ip X.K t)
section
variable {X:Cx}{K:PySem.W.Frag}{st:Stmt}{rest:List Stmt}{t u:xx}{pos:Pos}{e:Expr}{te:zH}
def Yk:xx:=λ E δ S=>E.nx δ S
def lp (t u:xx):xx:=λ E δ S=>t { E with nx:=u E } δ S
theorem lp.mo (h:sT t) (h':sT u):sT (lp t u):=λ E E' δ S hE z=>h { E with nx:=u E } { E' with nx:=u E' } δ S ⟨fun δ S q=>h' E E' δ S hE q,hE.rt,hE.bk,hE.ct⟩ z
theorem yL:tq X [] Yk:=⟨λ _ _ _ _ hE h=>hE.nx _ _ h,wR.imp Uu λ D σ H ⟨δ,S,r1,r2,h⟩=>h σ H r1 (.refl H) r2⟩
theorem zI (h:ud X st t):tq X [st] t:=⟨h.mo,Ut h.ps⟩
theorem zA (h:ud X st t) (h':tq X rest u):tq X (st::rest) (lp t u):=by
 refine⟨lp.mo h.mo h'.mo,wR.imp (Uv h.ps h'.ps) λ D σ H hu=>?_⟩;obtain⟨δ,S,r1,r2,z⟩:=hu;refine⟨δ,S,r1,r2,h.mo { sI X.K H D with nx:=u (sI X.K H D) } _ δ S ⟨fun δ' S' q σ' H' q1 q2 q3=>?_,λ _ _ q=>q,λ _ _ q=>q,λ _ _ q=>q⟩ z⟩;exact⟨δ',S',q1,q3,h'.mo _ _ δ' S' (sI.ext q2) q⟩
def ju (te:zH):xx:=λ E δ S=>te δ S λ _ S1=>E.nx δ S1
theorem t6 (he:PD X e te) (hs:swapsWith e none pos.line X.env=pure false:=by rfl):ud X (.Expr e pos) (ju te):=by
 refine⟨λ E E' δ S hE z=>he.mo δ S _ _ (λ _ _ q=>hE.nx _ _ q) z,PS.imp (U3 he.pe hs) λ D σ H hu=>?_⟩;obtain⟨δ,S,r1,r2,z⟩:=hu;exact yd.go he.mo r1 r2 z λ x S1 v H1 h1 q1 e1 p1=>h1 σ H1 (r1.ext e1) e1 p1
def eh (te:zH):xx:=λ E δ S=>te δ S E.rt
theorem zV (he:PD X e te):ud X (.Return (some e) pos) (eh te):=by
 refine⟨λ E E' δ S hE z=>he.mo δ S _ _ (λ _ _ q=>hE.rt _ _ q) z,PS.imp (Uz he.pe) λ D σ H hu=>?_⟩;obtain⟨δ,S,r1,r2,z⟩:=hu;exact yd.go he.mo r1 r2 z λ x S1 v H1 h1 q1 e1 p1=>h1 v H1 q1 e1 p1
def Yp (c:yZ) (t u:xx):xx:=λ E δ S=>c δ S λ k S1=>if k=true then t E δ S1 else u E δ S1
theorem yM {c:Expr}{p q:List Stmt}{tc:yZ}(hc:wj X c tc) (h:tq X p t) (h':tq X q u):ud X (.If c p q pos) (Yp tc t u):=by
 refine⟨λ E E' δ S hE z=>hc.mo δ S _ _ (λ k S1 z=>vH (h.mo _ _ δ S1 hE) (h'.mo _ _ δ S1 hE) z) z,PS.imp (U0 hc.pt h.ps h'.ps) λ D σ H hu=>?_⟩;obtain⟨δ,S,r1,r2,z⟩:=hu;refine vg.go hc.mo r1 r2 z λ k S1 H1 h1 e1 p1=>vH (λ z=>?_) (λ z=>?_) h1
 .exact⟨δ,S1,r1.ext e1,p1,h.mo _ _ δ S1 (sI.ext e1) z⟩
 .exact⟨δ,S1,r1.ext e1,p1,h'.mo _ _ δ S1 (sI.ext e1) z⟩
abbrev xO:=D->yz->SS->(yz->SS->Prop)->Prop
abbrev v5:=List D->yz->SS->(yz->SS->Prop)->Prop
def lH (t:xO):Prop:=∀ d δ S (Q Q':yz->SS->Prop),(∀ δ S,Q δ S->Q' δ S)->t d δ S Q->t d δ S Q'
def Xa (t:v5):Prop:=∀ d δ S (Q Q':yz->SS->Prop),(∀ δ S,Q δ S->Q' δ S)->t d δ S Q->t d δ S Q'
noncomputable def nU (K:PySem.W.Frag) (t:xO):TG:=λ v σ H Q=>∃ d δ S,zk K H d v/\xp K H δ σ/\z_ K H S/\t d δ S (vK K H Q)
noncomputable def cz (K:PySem.W.Frag) (t:v5):rJ:=λ v σ H Q=>∃ d δ S,zv K H d v/\xp K H δ σ/\z_ K H S/\t d δ S (vK K H Q)
structure rL (X:Cx) (e:Expr) (t:xO):Prop where
 mo:lH t
 pg:PG X e (nU X.K t)
structure jL (X:Cx) (es:List Expr) (t:v5):Prop where
 mo:Xa t
 pg:sS X es (cz X.K t)
theorem PG.imp {e:Expr}{t t':TG}(h:PG X e t) (hi:∀ v σ H Q,t' v σ H Q->t v σ H Q):PG X e t':=λ pins s σ H v w Q I r q=>h pins s σ H v w Q I r (hi v σ H Q q)
theorem sS.imp {e:List Expr}{t t':rJ}(h:sS X e t) (hi:∀ v σ H Q,t' v σ H Q->t v σ H Q):sS X e t':=λ pins s σ H v w Q I r q=>h pins s σ H v w Q I r (hi v σ H Q q)
def hName (i:Nat):xO:=λ d δ S Q=>Q (δ.set i (some d)) S
theorem T3 {e:Expr}{i:Nat}(h:PG X e (oO i)):rL X e (hName i):=
 ⟨λ _ _ _ _ _ hq z=>hq _ _ z,PG.imp h λ v σ H Q ⟨d,δ,S,r1,r2,r3,z⟩=>z _ H (r2.set i r1) (.refl H) r3⟩
def fB:v5:=λ ds δ S Q=>ds=[]/\Q δ S
def fC (t:xO) (u:v5):v5:=λ ds δ S Q=>match ds with
 | d::r=>t d δ S fun δ' S'=>u r δ' S' Q
 | []=>False
theorem oy:jL X [] fB:=by
 refine⟨λ _ _ _ _ _ hq z=>⟨z.1,hq _ _ z.2⟩,sS.imp UH λ v σ H Q hu=>?_⟩;obtain⟨d,δ,S,r1,r2,r3,z1,z2⟩:=hu;subst z1;simp only[zv] at r1;exact⟨r1,z2 σ H r2 (.refl H) r3⟩
theorem vE {e:Expr}{es:List Expr}{t:xO}{u:v5}(h:rL X e t) (h':jL X es u) (hs:(assignEach (e::es) X.env).map (·.2)=assign e X.env::(assignEach es X.env).map (·.2):=by rfl):jL X (e::es) (fC t u):=by
 refine⟨λ ds δ S Q Q' hq z=>?_,sS.imp (UI h.pg h'.pg hs) λ v σ H Q hu=>?_⟩
 .cases ds with
  | nil=>exact z
  | cons d r=>exact h.mo d δ S _ _ (fun δ' S' z=>h'.mo r δ' S' _ _ hq z) z
 .obtain⟨ds,δ,S,r1,r2,r3,z⟩:=hu;cases ds with
  | nil=>exact z.elim
  | cons d r=>
   simp only[zv] at r1;obtain⟨x,xs,rfl,q1,q2⟩:=r1;refine⟨x,xs,rfl,d,δ,S,q1,r2,r3,h.mo d δ S _ _ (fun δ' S' z σ' H' g1 g2 g3=>?_) z⟩;exact⟨r,δ',S',zv.ext g2 r q2,g1,g3,h'.mo r δ' S' _ _ (fun δ2 S2 z2=>vK.ext g2 z2) z⟩
def jf (n:Nat) (t:v5):xO:=λ d δ S Q=>match d with
 | .tup ds=>ds.length=n/\t ds δ S Q
 | _=>False
theorem T2 {e:Expr}{n:Nat}{t:v5}(h:PG X e (ZA X.K n (cz X.K t))) (hm:Xa t):rL X e (jf n t):=by
 refine⟨λ d δ S Q Q' hq z=>?_,PG.imp h λ v σ H Q hu=>?_⟩
 .cases d with
  | tup ds=>exact⟨z.1,hm ds δ S _ _ hq z.2⟩
  | _=>exact z
 .obtain⟨d,δ,S,r1,r2,r3,z⟩:=hu;cases d with
  | tup ds=>
   simp only[zk] at r1;obtain⟨a,xs,rfl,q1,q2⟩:=r1;exact⟨a,xs,rfl,q1,by rw[<- q2.length];exact z.1,ds,δ,S,q2,r2,r3,z.2⟩
  | zl=>exact z.elim
  | bl _=>exact z.elim
  | int _=>exact z.elim
  | str _=>exact z.elim
  | xb _=>exact z.elim
  | ref _=>exact z.elim
def v_ (te:zH) (g:xO):xx:=λ E δ S=>te δ S λ x S1=>g x δ S1 E.nx
theorem v_.mo {g:xO}(h:y6 te) (h':lH g):sT (v_ te g):=λ E E' δ S hE z=>h δ S _ _ (λ x S1 q=>h' x δ S1 _ _ (fun δ S q=>hE.nx _ _ q) q) z
theorem W9 {g:xO}(h:y6 te) (h':lH g) {D:Ends}{σ:St}{H:Hp}(hu:ip K (v_ te g) D σ H):nX (yd K te) (nU K g) D σ H:=by
 obtain⟨δ,S,r1,r2,z⟩:=hu;refine yd.go h r1 r2 z λ x S1 v H1 h1 q1 e1 p1=>?_;exact⟨x,δ,S1,q1,r1.ext e1,p1,h' x δ S1 _ _ (fun δ S q=>vK.ext e1 q) h1⟩
theorem Tx {tg e:Expr}{g:xO}(he:PD X e te) (hg:rL X tg g) (hs:swapsWithSole [tg] e pos.line X.env=pure false:=by rfl) (hw:swappedStores [tg] e X.env=pure none:=by rfl)
  (h1:(assignEach [tg] X.env).map (·.2)=[assign tg X.env]:=by rfl):ud X (.Assign [tg] e pos) (v_ te g):=
 ⟨v_.mo he.mo hg.mo,PS.imp (bF he.pe hg.pg hs hw h1) λ _ _ _ hu=>W9 he.mo hg.mo hu⟩
theorem Tu {e0:Stmt}{i:Nat}(h:PS X e0 (nX (yd X.K te) (oO i))) (hm:y6 te):ud X e0 (v_ te (hName i)):=by
 refine⟨v_.mo hm λ _ _ _ _ _ hq z=>hq _ _ z,PS.imp h λ D σ H hu=>?_⟩;obtain⟨δ,S,r1,r2,z⟩:=hu;refine yd.go hm r1 r2 z λ x S1 v H1 h1 q1 e1 p1=>?_;exact h1 _ H1 ((r1.ext e1).set i q1) e1 p1
end
end L3
namespace L3
open PySem PySem.Spec L2
open PyProof.Rows hiding St
structure lV where
 items:List D
 keep:SS->Prop
abbrev vL:=yz->SS->(lV->SS->Prop)->Prop
def jS (t:vL):Prop:=∀ δ S (Q Q':lV->SS->Prop),(∀ I S',Q I S'->Q' I S')->t δ S Q->t δ S Q'
def eV (K:PySem.W.Frag) (H1:Hp) (J:It) (I:lV):Prop:=∀ (i:Nat) (H:Hp) (S:SS),Ext H1 H->z_ K H S->I.keep S->
 (∀ d,I.items[i]?=some d->J.go i H/\∀ x H',J.pU i H x H'->Ext H H'/\z_ K H' S/\zk K H' d x)/\(I.items.length<=i->J.stop i H)
def PQ (K:PySem.W.Frag) (H:Hp) (R:It->Hp->Prop):lV->SS->Prop:=λ I S1=>∀ J H1,Ext H H1->z_ K H1 S1->eV K H1 J I->R J H1
def vn (K:PySem.W.Frag) (t:vL):TI:=fun σ H R=>∃ δ S,xp K H δ σ/\z_ K H S/\t δ S (PQ K H R)
structure pP (X:Cx) (tg iter:Expr) (t:vL):Prop where
 mo:jS t
 pi:PI X tg iter (vn X.K t)
theorem PI.imp {X:Cx}{tg e:Expr}{t t':TI}(h:PI X tg e t) (hi:∀ σ H Q,t' σ H Q->t σ H Q):PI X tg e t':=λ pins s σ H Q I q=>h pins s σ H Q I (hi σ H Q q)
section
variable {X:Cx}{K:PySem.W.Frag}{tg e:Expr}{te:zH}{pos:Pos}
theorem zv.at {H:Hp}{ds:List D}{xs:List V}{i:Nat}{d:D}{x:V}(r:zv K H ds xs) (h1:ds[i]?=some d) (h2:xs[i]?=some x):zk K H d x:=by
 obtain⟨y,e1,e2⟩:=r.get h1;rw[h2] at e1;cases e1;exact e2
noncomputable def um (lo:Int) (n:Nat):List D:=(List.range n).map λ(k:Nat)=>D.int (lo+(k:Int))
theorem Ud {lo:Int}{n i:Nat}{d:D}(h:(um lo n)[i]?=some d):i<n/\d=.int (lo+(i:Int)):=by
 unfold um at h;rw[List.getElem?_map] at h;cases q:(List.range n)[i]? with
 | none=>rw[q] at h;cases h
 | some j=>
  rw[q] at h;obtain⟨h1,h2⟩:=List.getElem?_eq_some_iff.mp q;rw[List.length_range] at h1;rw[List.getElem_range] at h2;subst h2;cases h;exact⟨h1,rfl⟩
theorem Uc (lo:Int) (n:Nat):(um lo n).length=n:=by unfold um;rw[List.length_map,List.length_range]
theorem eV.range {H1:Hp}{lo:Int}{n:Nat}:eV K H1 (jT lo n) ⟨um lo n,λ _=>True⟩:=λ i H S _ x2 _=>by
 refine⟨λ d hd=>?_,λ hl=>by rw[show (lV.mk (um lo n) λ _=>True).items=um lo n from rfl,Uc] at hl;exact hl⟩;obtain⟨h1,rfl⟩:=Ud hd;refine⟨h1,λ x H' q=>?_⟩;obtain⟨rfl,rfl⟩:=q;exact⟨.refl _,x2,by simp only[zk]⟩
def fx (t:yK):vL:=fun δ S R=>t δ S λ ds S1=>match ds with
 | [.int j]=>(-(2 ^ 62)<=j/\j<2 ^ 62)/\R ⟨um 0 j.toNat,λ _=>True⟩ S1
 | _=>False
variable {tA:yK}
theorem Tz (h:PI X tg e (Zz (vA X.K tA))) (hm:rM tA):pP X tg e (fx tA):=by
 refine⟨fun δ S Q Q' hq z=>hm δ S _ _ (λ ds S1 z=>?_) z,PI.imp h fun σ H R hu=>?_⟩
 .split at z
  .exact⟨z.1,hq _ _ z.2⟩
  .exact z.elim
 .obtain⟨δ,S,r1,r2,z⟩:=hu;refine vA.go hm r1 r2 z λ ds S1 xs H1 h1 q1 e1 p1=>?_;split at h1
  .obtain⟨x,rfl,q⟩:=q1.one;simp only[zk] at q;subst q;exact⟨_,rfl,h1.1.1,h1.1.2,h1.2 _ H1 e1 p1 .range⟩
  .exact h1.elim
def lx (ti:vL) (g:xO) (tb:xx):xx:=λ E δ S=>ti δ S λ I S1=>∃ W:Nat->yz->SS->Prop,W 0 δ S1/\(∀ i δ S,W i δ S->I.keep S)/\
 (∀ i d δ S,I.items[i]?=some d->W i δ S->g d δ S fun δ2 S2=>tb { E with nx:=W (i+1),ct:=W (i+1),bk:=E.nx } δ2 S2)/\∀ δ S,W I.items.length δ S->E.nx δ S
theorem lx.mo {ti:vL}{g:xO}{tb:xx}(hi:jS ti) (hg:lH g) (hb:sT tb):sT (lx ti g tb):=λ E E' δ S hE z=>hi δ S _ _ (λ I S1 ⟨W,w0,wk,ws,wd⟩=>by
 refine⟨W,w0,wk,λ i d δ S hd hw=>hg d δ S _ _ (fun δ2 S2 z=>hb { E with nx:=W (i+1),ct:=W (i+1),bk:=E.nx } { E' with nx:=W (i+1),ct:=W (i+1),bk:=E'.nx } δ2 S2 ⟨λ _ _ q=>q,hE.rt,hE.nx,λ _ _ q=>q⟩ z) (ws i d δ S hd hw),fun δ S q=>hE.nx _ _ (wd δ S q)⟩) z
theorem vD {iter:Expr}{body:List Stmt}{ti:vL}{g:xO}{tb:xx}(hp:PassesOwn (model X.prog X.w) X.A X.env X.xe) (hc:X.calm=true) (hi:pP X tg iter ti) (hg:rL X tg g) (hb:tq X body tb)
  (hs:∀ x,foldedSetIterable iter X.env x=pure x:=by intro _;rfl):ud X (.For tg iter body [] pos) (lx ti g tb):=by
 refine⟨lx.mo hi.mo hg.mo hb.mo,PS.imp (U1 hp hc hi.pi hg.pg hb.ps hs) λ D σ H hu=>?_⟩;obtain⟨δ,S,r1,r2,z⟩:=hu;refine⟨δ,S,r1,r2,hi.mo δ S _ _ (λ I S1 hW J H1 e1 p1 rep=>?_) z⟩;obtain⟨W,w0,wk,ws,wd⟩:=hW;refine⟨λ i m σ H2=>m=I.items.length-i/\i<=I.items.length/\Ext H1 H2/\∃ δ S,xp X.K H2 δ σ/\z_ X.K H2 S/\W i δ S,⟨_,rfl,Nat.zero_le _,.refl _,δ,S1,r1.ext e1,p1,w0⟩,?_⟩;rintro i m σ2 H2 ⟨rfl,hi',x2,δ2,S2,q1,q2,w2⟩;obtain⟨g1,g2⟩:=rep i H2 S2 x2 q2 (wk i δ2 S2 w2);by_cases hl:i<I.items.length
 .have hd:I.items[i]?=some I.items[i]:=by simp[hl]
  obtain⟨go,yl⟩:=g1 _ hd;refine .inr ⟨go,fun σ' H'=>Ext H1 H'/\∃ δ S,xp X.K H' δ σ'/\z_ X.K H' S/\W (i+1) δ S,fun σ' H' q=>⟨_,by omega,rfl,hl,q⟩,λ x H3 hy=>?_⟩;obtain⟨x3,p3,d3⟩:=yl x H3 hy;refine⟨_,δ2,S2,d3,q1.ext x3,p3,hg.mo _ δ2 S2 _ _ (fun δ4 S4 z4 σ4 H4 a1 a2 a3=>?_) (ws i _ δ2 S2 hd w2)⟩;refine⟨δ4,S4,a1,a3,hb.mo _ _ δ4 S4 ⟨fun δ5 S5 w5 σ5 H5 b1 b2 b3=>⟨((x2.trans x3).trans a2).trans b2,δ5,S5,b1,b3,w5⟩,λ _ _ q=>vm.ext (((e1.trans x2).trans x3).trans a2) q,λ _ _ q=>vK.ext (((e1.trans x2).trans x3).trans a2) q,fun δ5 S5 w5 σ5 H5 b1 b2 b3=>⟨((x2.trans x3).trans a2).trans b2,δ5,S5,b1,b3,w5⟩⟩ z4⟩
 .have e:i=I.items.length:=by omega
  subst e;exact .inl ⟨g2 (Nat.le_refl _),wd δ2 S2 w2 σ2 H2 q1 (e1.trans x2) q2⟩
abbrev qD:=List D->SS->DK->Prop
def eU (sp:qD):Prop:=∀ ds S (Q Q':DK),(∀ d S',Q d S'->Q' d S')->sp ds S Q->sp ds S Q'
noncomputable def sZ (K:PySem.W.Frag) (sp:qD):Sp:=λ vs H Q _=>∃ ds S,zv K H ds vs/\z_ K H S/\sp ds S (vm K H Q)
def ei (sp:qD) (t:yK):zH:=fun δ S Q=>t δ S λ ds S1=>sp ds S1 Q
theorem TL {sp:qD}{E:XK}{e:Expr}(h:PE X e (cE (sZ X.K sp) [] E (vA X.K tA))) (hs:eU sp) (hm:rM tA):PD X e (ei sp tA):=by
 refine⟨fun δ S Q Q' hq z=>hm δ S _ _ (λ ds S1 z=>hs ds S1 _ _ hq z) z,PE.imp h fun σ H Q hu=>?_⟩;obtain⟨δ,S,r1,r2,z⟩:=hu;refine vA.go hm r1 r2 z λ ds S1 xs H1 h1 q1 e1 p1=>?_;rw[List.append_nil];exact⟨ds,S1,q1,p1,hs ds S1 _ _ (λ d S' q=>vm.ext e1 q) h1⟩
noncomputable def rb (N:List Str) (ds:List D):yz:=ds.map some++List.replicate (N.length-ds.length) none
theorem xp.init {H:Hp}{N:List Str}{ds:List D}{vs:List V}(r:zv K H ds vs):xp K H (rb N ds) (start N vs):=by
 have hl:=r.length;refine⟨by unfold rb L2.start;simp[hl],λ i d h=>?_⟩;unfold rb at h;have hi:i<ds.length:=by
  rcases Nat.lt_or_ge i ds.length with q | q
  .exact q
  .rw[List.getElem?_append_right (by simpa using q),List.getElem?_replicate] at h;split at h <;> cases h
 rw[List.getElem?_append_left (by simpa using hi),List.getElem?_map] at h;cases q:ds[i]? with
 | none=>rw[q] at h;cases h
 | some d'=>
  rw[q] at h;cases h;obtain⟨x,e1,e2⟩:=r.get q;refine⟨x,?_,e2⟩;unfold L2.start;rw[List.getElem?_append_left (by simpa using by omega),List.getElem?_map,e1];rfl
theorem Pa {P:Program}{w:World}{K:PySem.W.Frag}{mg:Str->Option Value}{base:Heap}{x qual:Str}{st:Stmt}{f:Addr}{fd:FuncData}{N ps:List Str}{k:Nat}{sp:qD}(F:tV K x qual st f fd) (Sc:yr N ps (zL st))
  (len:∀ ds S Q,sp ds S Q->ds.length=ps.length)
  (hbody:∀ (cdv:Value) (A:Around) (outer:List Env) (s:Shared) (H:Hp) (E:XK),yS k (A.deeper (envOfC qual (zL st) s.heap.objs.size f cdv))->
   ∃ t,tq (sJ uh P w K mg base N qual (zL st) f cdv A outer s H E).qj (vY st) t/\∀ ds S Q,sp ds S Q->t { nx:=λ _ S'=>Q .zl S',rt:=Q } (rb N ds) S):tw P w K mg base uh (k+1) f fd ps (sZ K sp):=by
 refine F.ok Sc (λ vs H Q E h=>?_) λ cdv A outer s H vs Q E hr h=>?_
 .obtain⟨ds,S,r1,_,z⟩:=h;rw[<- r1.length];exact len _ _ _ z
 .obtain⟨ds,S,r1,r2,z⟩:=h;obtain⟨t,ht,hq⟩:=hbody cdv A outer s H E hr;refine⟨_,ht.ps,rb N ds,S,.init r1,r2,ht.mo { nx:=λ _ S'=>vm K H Q .zl S',rt:=vm K H Q } _ _ _ ⟨fun δ S' q σ' H' _ b c=>q .zl H' (by simp only[zk]) b c,λ _ _ q=>q,λ _ _ q=>False.elim q,λ _ _ q=>False.elim q⟩ (hq ds S _ z)⟩
noncomputable def uK (pick:List (Option Nat)) (δ:yz):yz:=pick.map λ o=>o.bind λ i=>(δ[i]?).join
theorem xp.pick {H:Hp}{δ:yz}{σ:St}(r:xp K H δ σ) (pick:List (Option Nat)):xp K H (uK pick δ) (uJ pick σ):=by
 refine⟨by unfold uK uJ;simp,λ i d h=>?_⟩;unfold uK at h;rw[List.getElem?_map] at h;cases q:pick[i]? with
 | none=>rw[q] at h;cases h
 | some o=>
  rw[q] at h;cases o with
  | none=>simp at h
  | some j=>
   simp only[Option.map_some,Option.bind_some,Option.some.injEq] at h;have hj:δ[j]?=some (some d):=by
    cases q2:δ[j]? with
    | none=>rw[q2] at h;cases h
    | some o2=>rw[q2] at h;simp only[Option.join_some] at h;rw[h]
   obtain⟨v,e1,e2⟩:=r.2 j d hj;refine⟨v,?_,e2⟩;unfold uJ;rw[List.getElem?_map,q];simp[e1]
def pM (δ δ':yz):Prop:=δ.length=δ'.length/\∀ (i:Nat) d,δ[i]?=some (some d)->δ'[i]?=some (some d)
theorem pM.rep {H:Hp}{δ δ':yz}{σ:St}(h:pM δ δ') (r:xp K H δ' σ):xp K H δ σ:=⟨h.1.trans r.1,λ i d q=>r.2 i d (h.2 i d q)⟩
structure jM (X:Cx) (ifs:List Expr) (t:yZ):Prop where
 mo:v8 t
 pf:PF X ifs (vg X.K t)
theorem PF.imp {ifs:List Expr}{t t':TT}(h:PF X ifs t) (hi:∀ σ H Q,t' σ H Q->t σ H Q):PF X ifs t':=λ pins s σ H Q I q=>h pins s σ H Q I (hi σ H Q q)
def ZV:yZ:=λ _ S Q=>Q true S
theorem t7:jM X [] ZV:=⟨λ _ _ _ _ hq z=>hq _ _ z,PF.imp UN λ _ H _ ⟨_,_,_,r2,z⟩=>z H (.refl H) r2⟩
theorem m4 {c:Expr}{t:yZ}(h:wj X c t):jM X [c] t:=⟨h.mo,UM h.pt⟩
section
variable {N':List Str}{pick:List (Option Nat)}{scope:Scope}{elt iter:Expr}{ifs:List Expr}{ti:vL}{g:xO}{tc:yZ}
end
end
end L3
namespace L2
open PySem PySem.Spec PyProof.Rows
def QJ (K:PySem.W.Frag) (tl:TE):TI:=fun σ H R=>tl σ H λ x H1=>∃ a,x=.ref a/\(((∃ xs,yf K H1 a xs)/\R (Xc K a) H1)\/((∃ xs,ym K H1 a xs)/\R (Xb K a) H1))
theorem UD {X:Cx}{tg l:Expr}{tl:TE}(hl:PE X l tl):PI X tg l (QJ X.K tl):=by
 intro pins s σ H R I h;refine zQ (hl pins s σ H _ I h) λ v s1 ⟨x,H1,I1,r1,a,hx,q1⟩=>?_;subst hx;cases r1;have new:∀ b∈[s1.heap.objs.size],uE X pins H1 b:=λ b hb=>by
  obtain rfl:b=s1.heap.objs.size:=List.mem_singleton.mp hb;exact I1.fO (Nat.le_refl _) (I1.zJ.fresh (Nat.le_refl _))
 rcases q1 with ⟨⟨xs,hq⟩,q⟩ | ⟨⟨xs,hq⟩,q⟩
 .obtain⟨its,_,pl,_⟩:=I1.list hq;exact wpAny_pyIter_list pl.isList ⟨_,_,_,_,H1,rfl,I1.kept (t':=s1.toks) λ b o eo=>zHp _ eo,WI a _,⟨_,Heap.get?_push_size _ rfl,rfl,rfl⟩,new,q⟩
 .obtain⟨its,_,pt,_⟩:=I1.tuple hq;exact wpAny_pyIter_tuple (show s1.heap.IsTuple a its.toArray from pt) ⟨_,_,_,_,H1,rfl,I1.kept (t':=s1.toks) λ b o eo=>zHp _ eo,WG a _,⟨_,Heap.get?_push_size _ rfl,rfl,rfl⟩,new,q⟩
theorem range_all (bs:List Bool):(List.range bs.length).all (λ i=>bs.getD i true)=bs.all id:=by
 rw[Bool.eq_iff_iff,List.all_eq_true,List.all_eq_true];constructor
 .intro h b hb;obtain⟨i,hi,rfl⟩:=List.mem_iff_getElem.mp hb;have:=h i (List.mem_range.mpr hi);simpa [hi] using this
 .intro h i hi;have hi':=List.mem_range.mp hi;have:=h bs[i] (List.getElem_mem hi');simpa [hi'] using this
theorem range_any (bs:List Bool):(List.range bs.length).any (λ i=>bs.getD i true)=bs.any id:=by
 rw[Bool.eq_iff_iff,List.any_eq_true,List.any_eq_true];constructor
 .rintro⟨i,hi,h⟩;have hi':=List.mem_range.mp hi;exact⟨bs[i],List.getElem_mem hi',by simpa [hi'] using h⟩
 .rintro⟨b,hb,h⟩;obtain⟨i,hi,rfl⟩:=List.mem_iff_getElem.mp hb;exact⟨i,List.mem_range.mpr hi,by simpa [hi] using h⟩
theorem YF {bs:List Bool}{its:List Value}(r:Vals (bs.map V.bl) its) {i:Nat}{v:Value}(h:its.toArray[i]?=some v):v=.bool (bs.getD i true):=by
 have hl:=r.length;rw[List.length_map] at hl;have h':its[i]?=some v:=by simpa using h
 have hi:i<bs.length:=by
  rw[hl];rcases Nat.lt_or_ge i its.length with q | q
  .exact q
  .rw[List.getElem?_eq_none q] at h';cases h'
 obtain⟨u,e1,e2⟩:=r.get (i:=i) (x:=.bl bs[i]) (by simp[hi]);rw[h'] at e1;cases e1;have:v=.bool bs[i]:=e2;rw[this];simp[hi]
section
variable {X:Cx}
theorem OU (hc:X.calm=true):y_ X (.builtin "all") (λ xs H Q=>∃ p,∃ bs:List Bool,xs=[.ref p]/\yf X.K H p (bs.map V.bl)/\Q (.bl (bs.all id)) H):=by
 intro pins s σ H xs us Q I r h;obtain⟨p,bs,rfl,hq,q⟩:=h;obtain⟨u,rfl,ru⟩:=vals1 r;cases ru;obtain⟨its,rv,pl,hz⟩:=I.list hq;have hl:=rv.length;rw[List.length_map] at hl;have hlt:p<s.heap.objs.size:=by obtain⟨o,n,e,_⟩:=pl;exact Heap.lt_size e
 refine call_all_walk (wpAny_pyIter_list pl.isList ?_);refine⟨s.heap.objs.size,_,_,_,_,_,λ i=>bs.getD i true,rfl,Walks.list (A:=X.A.in1) (I.ok.hd hc) s.heap.objs.size p (Nat.ne_of_lt hlt) its.toArray,⟨⟨_,Heap.get?_push_size _ rfl,rfl,rfl⟩,pl.isList.push _⟩,λ i v s' Q' E' hv hq'=>?_,λ h' tk hk=>?_⟩
 .rw[YF rv hv];exact wpAny_truthy_bool hq'
 .have e:(List.range its.toArray.size).all (λ i=>bs.getD i true)=bs.all id:=by rw[List.size_toArray,<- hl,range_all]
  rw[e];exact⟨.bl _,H,I.kept (t':=tk) λ b o eo=>hk b o (by simpa using Nat.ne_of_lt (Heap.lt_size eo)) (zHp _ eo),rfl,q⟩
theorem OT (hc:X.calm=true):y_ X (.builtin "any") (λ xs H Q=>∃ p,∃ bs:List Bool,xs=[.ref p]/\yf X.K H p (bs.map V.bl)/\Q (.bl (bs.any id)) H):=by
 intro pins s σ H xs us Q I r h;obtain⟨p,bs,rfl,hq,q⟩:=h;obtain⟨u,rfl,ru⟩:=vals1 r;cases ru;obtain⟨its,rv,pl,hz⟩:=I.list hq;have hl:=rv.length;rw[List.length_map] at hl;have hlt:p<s.heap.objs.size:=by obtain⟨o,n,e,_⟩:=pl;exact Heap.lt_size e
 refine call_any_walk (wpAny_pyIter_list pl.isList ?_);refine⟨s.heap.objs.size,_,_,_,_,_,λ i=>bs.getD i true,rfl,Walks.list (A:=X.A.in1) (I.ok.hd hc) s.heap.objs.size p (Nat.ne_of_lt hlt) its.toArray,⟨⟨_,Heap.get?_push_size _ rfl,rfl,rfl⟩,pl.isList.push _⟩,λ i v s' Q' E' hv hq'=>?_,λ h' tk hk=>?_⟩
 .rw[YF rv hv];exact wpAny_truthy_bool hq'
 .have e:(List.range its.toArray.size).any (λ i=>bs.getD i true)=bs.any id:=by rw[List.size_toArray,<- hl,range_any]
  rw[e];exact⟨.bl _,H,I.kept (t':=tk) λ b o eo=>hk b o (by simpa using Nat.ne_of_lt (Heap.lt_size eo)) (zHp _ eo),rfl,q⟩
end
end L2
namespace L3
open PySem PySem.Spec L2
open PyProof.Rows hiding St
structure Bt (mg:Str->Option Value):Prop where
 len:mg "len"=none
 range:mg "range"=none
 any:mg "any"=none
 all:mg "all"=none
 sorted:mg "sorted"=none
 isinstance:mg "isinstance"=none
 bool:mg "bool"=none
 int:mg "int"=none
 str:mg "str"=none
 list:mg "list"=none
 tuple:mg "tuple"=none
 max:mg "max"=none
 min:mg "min"=none
section
variable {X:Cx}{K:PySem.W.Frag}{a b c e:Expr}{es:List Expr}{ta tb tc te:zH}{tA:yK}{pos p:Pos}
theorem vz {N':List Str}{pick:List (Option Nat)}{scope esc:Scope}{N:List Str}(hE:X.env.scope=esc:=by rfl) (hN:X.N=N:=by rfl) (h1:scope.kind=.function:=by rfl) (h2:scope.names.all (λ y=>decide (y.2≠.cell))=true:=by decide +kernel)
  (h3:scope.names.all (λ y=>!decide (y.2=.local)||decide (scope.names.lookup y.1=some .local))=true:=by decide +kernel)
  (h4:scope.names.all (λ y=>!decide (y.2=.free)||(decide (esc.names.lookup y.1=some .cell)||decide (esc.names.lookup y.1=some .free)))=true:=by decide +kernel)
  (h5:pick.length=N'.length:=by rfl) (h6:oq N N' pick scope=true:=by decide +kernel):pS X N' pick scope:=by
 refine⟨h1,λ y hy=>?_,λ y hy hl=>?_,λ y hy hf=>?_,h5,by rw[hN];exact h6⟩
 .exact of_decide_eq_true (List.all_eq_true.mp h2 y hy)
 .have:=List.all_eq_true.mp h3 y hy;rw[decide_eq_true hl] at this;simpa using this
 .have:=List.all_eq_true.mp h4 y hy;rw[decide_eq_true hf] at this;rw[hE];simpa using this
theorem y7 (i:Nat) {x:Str}(hN:X.N.Nodup) (hi:X.N[i]?=some x:=by rfl) (hx:Loc X.env.scope x:=by first | exact Or.inl rfl | exact Or.inr rfl) (hf:X.fn x=true\/X.env.scope.names.lookup x=some .local:=by first | exact .inl rfl | exact .inr rfl):rL X (.Name x pos) (hName i):=
 T3 (UL hN hi hx hf)
theorem oz {k:Nat}{t:v5}{n:Nat}(h:jL X es t) (hc:X.calm=true:=by rfl) (hn:(assignEach es X.env).length=n:=by rfl) (hst:(assignEach es X.env).findIdx? (·.1)=none:=by rfl):rL X (.Tuple es k pos) (jf n t):=
 T2 (UJ hc h.pg hn hst) h.mo
theorem zO (i:Nat) {x:Str}{pos':Pos}(hN:X.N.Nodup) (he:PD X e te) (hi:X.N[i]?=some x:=by rfl) (hx:Loc X.env.scope x:=by first | exact Or.inl rfl | exact Or.inr rfl) (hs:swapsWith e (some (.Name x pos')) pos.line X.env=pure false:=by rfl)
  (hf:X.fn x=true\/X.env.scope.names.lookup x=some .local:=by first | exact .inl rfl | exact .inr rfl):ud X (.Assign [.Name x pos'] e pos) (v_ te (hName i)):=
 Tu (Uy hN hi hx he.pe hs hf) he.mo
def fw (te:zH):vL:=fun δ S R=>te δ S λ x S1=>match x with
 | .tup ds=>R ⟨ds,λ _=>True⟩ S1
 | .xb ds=>R ⟨ds,λ _=>True⟩ S1
 | .ref p=>match S1 p with
  | some (.lst ds)=>R ⟨ds,λ S=>S p=some (.lst ds)⟩ S1
  | _=>False
 | _=>False
theorem wa {tg:Expr}(h:PD X e te):pP X tg e (fw te):=by
 refine⟨fun δ S Q Q' hq z=>h.mo δ S _ _ (λ x S1 z=>?_) z,?_⟩
 .cases x with
  | ref p=>
   dsimp only at z ⊢;split at z
   .exact hq _ _ z
   .exact z.elim
  | xb ds=>exact hq _ _ z
  | tup ds=>exact hq _ _ z
  | _=>exact z
 .refine PI.imp (UD h.pe) fun σ H R hu=>?_
  obtain⟨δ,S,r1,r2,z⟩:=hu;refine yd.go h.mo r1 r2 z λ x S1 v H1 h1 q1 e1 p1=>?_;cases x with
  | tup ds=>
   simp only[zk] at q1;obtain⟨a,xs,rfl,g1,g2⟩:=q1;refine⟨a,rfl,.inr ⟨⟨xs,g1⟩,h1 _ H1 e1 p1 λ i H2 S2 x1 x2 _=>⟨λ d hd=>?_,λ hl=>⟨xs,x1.kh g1,by rw[<- g2.length];exact hl⟩⟩⟩⟩;obtain⟨y,hy,_⟩:=g2.get hd;refine⟨⟨xs,y,x1.kh g1,hy⟩,λ x H' q=>?_⟩;obtain⟨rfl,q⟩:=q;exact⟨.refl _,x2,(zv.ext x1 ds g2).at hd (q xs (x1.kh g1))⟩
  | ref p=>
   dsimp only at h1;split at h1
   .rename_i ds e2;simp only[zk] at q1;subst q1;obtain⟨xs0,g1,_⟩:=p1 _ _ e2;refine⟨p,rfl,.inl ⟨⟨xs0,yf.of g1⟩,h1 _ H1 e1 p1 λ i H2 S2 x1 x2 hk=>?_⟩⟩;obtain⟨xs,g3,g4⟩:=x2 _ _ hk;refine⟨λ d hd=>?_,λ hl=>⟨xs,yf.of g3,by rw[<- g4.length];exact hl⟩⟩;obtain⟨y,hy,_⟩:=g4.get hd;refine⟨⟨xs,y,yf.of g3,hy⟩,λ x H' q=>?_⟩;obtain⟨rfl,q⟩:=q;exact⟨.refl _,x2,g4.at hd (q xs (yf.of g3))⟩
   .exact h1.elim
  | xb ds=>
   simp only[zk] at q1;obtain⟨a,xs,rfl,g1,g2⟩:=q1;refine⟨a,rfl,.inl ⟨⟨xs,g1.sq⟩,h1 _ H1 e1 p1 λ i H2 S2 x1 x2 _=>⟨λ d hd=>?_,λ hl=>⟨xs,(x1.ki g1).sq,by rw[<- g2.length];exact hl⟩⟩⟩⟩;obtain⟨y,hy,_⟩:=g2.get hd;refine⟨⟨xs,y,(x1.ki g1).sq,hy⟩,λ x H' q=>?_⟩;obtain⟨rfl,q⟩:=q;exact⟨.refl _,x2,(zv.ext x1 ds g2).at hd (q xs (x1.ki g1).sq)⟩
  | zl=>exact h1.elim
  | bl _=>exact h1.elim
  | int _=>exact h1.elim
  | str _=>exact h1.elim
end
end L3
namespace L4
open PySem PySem.W PyProof.Rows
noncomputable def yR {α:Type}(n:Nat) (lt:Nat->Nat->Bool):KasT α->(α->Prop)->Prop
 | .ret a,Q=>Q a
 | .ask i j k,Q=>i<n/\j<n/\yR n lt (k (lt i j)) Q
theorem yR.mono {α:Type}{n:Nat}{lt:Nat->Nat->Bool}{Q Q':α->Prop}(hq:∀ a,Q a->Q' a):∀ {t:KasT α},yR n lt t Q->yR n lt t Q'
 | .ret _,h=>hq _ h
 | .ask _ _ _,h=>⟨h.1,h.2.1,yR.mono hq h.2.2⟩
theorem yR.bind {α β:Type}{n:Nat}{lt:Nat->Nat->Bool}{f:α->KasT β}{Q:β->Prop}:∀ {t:KasT α},yR n lt t (λ a=>yR n lt (f a) Q)->yR n lt (t.bind f) Q
 | .ret _,h=>h
 | .ask _ _ _,h=>⟨h.1,h.2.1,yR.bind h.2.2⟩
section
variable {n:Nat}{lt:Nat->Nat->Bool}
def Le (lt:Nat->Nat->Bool) (a b:Nat):Prop:=lt b a=false
structure Ord (lt:Nat->Nat->Bool):Prop where
 tr:∀ a b c,Le lt a b->Le lt b c->Le lt a c
 as:∀ a b,lt a b=true->Le lt a b
theorem Ord.refl (o:Ord lt) (a:Nat):Le lt a a:=by
 cases h:lt a a with
 | false=>exact h
 | true=>exact o.as a a h
def xW (n:Nat) (p:Array Nat):Prop:=p.Perm (List.range n).toArray
theorem xW.size {p:Array Nat}(h:xW n p):p.size=n:=by rw[Array.Perm.size_eq h];simp
theorem xW.below {p:Array Nat}(h:xW n p) {i:Nat}(hi:i<n):p.getD i 0<n:=by
 have hs:=h.size;have hm:p.getD i 0∈p:=by
  rw[Array.getD_eq_getD_getElem?,Array.getElem?_eq_getElem (by omega)];exact Array.getElem_mem (by omega)
 have:p.getD i 0∈(List.range n).toArray:=(Array.Perm.mem_iff h).mp hm;simpa using this
theorem mU {p q:Array Nat}{i j:Nat}(h:p[i]?=q[j]?):p.getD i 0=q.getD j 0:=by rw[Array.getD_eq_getD_getElem?,Array.getD_eq_getD_getElem?,h]
def uc (lt:Nat->Nat->Bool) (p:Array Nat) (k:Nat):Prop:=∀ i j,i<=j->j<k->Le lt (p.getD i 0) (p.getD j 0)
def sW (lt:Nat->Nat->Bool) (p:Array Nat) (k:Nat):Prop:=∀ i j,i<=j->j<k->Le lt (p.getD j 0) (p.getD i 0)
theorem uc.next (o:Ord lt) {p:Array Nat}{k:Nat}(h:uc lt p k) (hk:1<=k) (hl:Le lt (p.getD (k-1) 0) (p.getD k 0)):uc lt p (k+1):=λ i j hij hj=>by
 by_cases hjk:j<k
 .exact h i j hij hjk
 .have e:j=k:=by omega
  subst e;by_cases hi:i=j
  .subst hi;exact o.refl _
  .exact o.tr _ _ _ (h i (j-1) (by omega) (by omega)) hl
theorem sW.next (o:Ord lt) {p:Array Nat}{k:Nat}(h:sW lt p k) (hk:1<=k) (hl:Le lt (p.getD k 0) (p.getD (k-1) 0)):sW lt p (k+1):=λ i j hij hj=>by
 by_cases hjk:j<k
 .exact h i j hij hjk
 .have e:j=k:=by omega
  subst e;by_cases hi:i=j
  .subst hi;exact o.refl _
  .exact o.tr _ _ _ hl (h i (j-1) (by omega) (by omega))
theorem eM (o:Ord lt) {p:Array Nat}(hp:xW n p):∀ (f a:Nat),1<=a->a+f<=n->uc lt p a->
  yR n lt (kas_asc p f a) λ m=>a<=m/\m<=a+f/\uc lt p m/\(m=a+f\/lt (p.getD m 0) (p.getD (m-1) 0)=true)
 | 0,a,_,_,hs=>⟨Nat.le_refl _,Nat.le_refl _,hs,.inl rfl⟩
 | f+1,a,h1,h2,hs=>by
  refine⟨hp.below (by omega),hp.below (by omega),?_⟩;cases c:lt (p.getD a 0) (p.getD (a-1) 0) with
  | true=>exact⟨Nat.le_refl _,by omega,hs,.inr c⟩
  | false=>
   refine yR.mono ?_ (eM o hp f (a+1) (by omega) (by omega) (hs.next o h1 c));rintro m ⟨g1,g2,g3,g4⟩;exact⟨by omega,by omega,g3,g4.imp (λ e=>by omega) id⟩
theorem mh {p:Array Nat}(hp:xW n p) (i j:Nat):xW n (kas_rev p i j):=Array.Perm.trans (mirror_perm _ _ _ _) hp
theorem mj {p:Array Nat}(hp:xW n p) {i j:Nat}(hj:j<=n) (k:Nat):(kas_rev p i j).getD k 0=if i<=k/\k<j then p.getD (i+j-1-k) 0 else p.getD k 0:=by
 have e:=getElem?_mirror_all (xs:=p) (i:=i) (j:=j) (by rw[hp.size];exact hj) k;split
 .rename_i h;rw[if_pos h] at e;exact mU e
 .rename_i h;rw[if_neg h] at e;exact mU e
theorem rev_eq (o:Ord lt) {p:Array Nat}(hp:xW n p) {i j:Nat}(hj:j<=n) (he:∀ a b,i<=a->a<j->i<=b->b<j->Le lt (p.getD a 0) (p.getD b 0)) (k:Nat):
  Le lt ((kas_rev p i j).getD k 0) (p.getD k 0)/\Le lt (p.getD k 0) ((kas_rev p i j).getD k 0):=by
 rw[mj hp hj];split
 .rename_i h;exact⟨he _ _ (by omega) (by omega) h.1 h.2,he _ _ h.1 h.2 (by omega) (by omega)⟩
 .exact⟨o.refl _,o.refl _⟩
theorem sW.of_eq (o:Ord lt) {p q:Array Nat}{k:Nat}(h:sW lt p k) (e:∀ k,Le lt (q.getD k 0) (p.getD k 0)/\Le lt (p.getD k 0) (q.getD k 0)):sW lt q k:=λ i j hij hj=>
 o.tr _ _ _ (e j).1 (o.tr _ _ _ (h i j hij hj) (e i).2)
def dW (lt:Nat->Nat->Bool) (p:Array Nat) (m q:Nat):Prop:=∀ a b,m-(q+1)<=a->a<m->m-(q+1)<=b->b<m->Le lt (p.getD a 0) (p.getD b 0)
theorem js (o:Ord lt):∀ (f:Nat) (p:Array Nat) (m q:Nat),xW n p->1<=m->m+f<=n->sW lt p m->q+1<=m->dW lt p m q->
  yR n lt (kas_desc f p m q) λ r=>xW n r.1/\m<=r.2.1/\r.2.1<=m+f/\sW lt r.1 r.2.1/\r.2.2+1<=r.2.1/\dW lt r.1 r.2.1 r.2.2
 | 0,p,m,q,hp,_,_,hd,hq,hb=>⟨hp,Nat.le_refl _,Nat.le_refl _,hd,hq,hb⟩
 | f+1,p,m,q,hp,h1,h2,hd,hq,hb=>by
  have one:∀ p':Array Nat,dW lt p' (m+1) 0:=λ p' a b a1 a2 b1 b2=>by
   have:a=b:=by omega
   subst this;exact o.refl _
  refine⟨hp.below (by omega),hp.below (by omega),?_⟩;cases c:lt (p.getD m 0) (p.getD (m-1) 0) with
  | true=>
   dsimp only;rw[if_pos rfl];have hl:=o.as _ _ c;by_cases h0:q>0
   .rw[if_pos h0];have e:=rev_eq o hp (i:=m-(q+1)) (j:=m) (by omega) hb;have hp':=mh hp (m-(q+1)) m;refine yR.mono ?_ (js o f _ (m+1) 0 hp' (by omega) (by omega) ((hd.of_eq o e).next o h1 (o.tr _ _ _ (e m).1 (o.tr _ _ _ hl (e (m-1)).2))) (by omega) (one _));rintro r ⟨a1,a2,a3,a4⟩;exact⟨a1,by omega,by omega,a4⟩
   .rw[if_neg h0];refine yR.mono ?_ (js o f _ (m+1) 0 hp (by omega) (by omega) (hd.next o h1 hl) (by omega) (one _));rintro r ⟨a1,a2,a3,a4⟩;exact⟨a1,by omega,by omega,a4⟩
  | false=>
   dsimp only;rw[if_neg Bool.false_ne_true];refine⟨hp.below (by omega),hp.below (by omega),?_⟩;cases d:lt (p.getD (m-1) 0) (p.getD m 0) with
   | true=>exact⟨hp,Nat.le_refl _,(by show m<=m+(f+1);omega),hd,hq,hb⟩
   | false=>
    dsimp only;rw[if_neg Bool.false_ne_true];refine yR.mono ?_ (js o f _ (m+1) (q+1) hp (by omega) (by omega) (hd.next o h1 d) (by omega) λ a b a1 a2 b1 b2=>?_)
    .rintro r ⟨a1,a2,a3,a4⟩;exact⟨a1,by omega,by omega,a4⟩
    .by_cases ha:a=m
     .by_cases hb':b=m
      .subst ha;subst hb';exact o.refl _
      .subst ha;exact o.tr _ _ _ d (hb (a-1) b (by omega) (by omega) (by omega) (by omega))
     .by_cases hb':b=m
      .subst hb';exact o.tr _ _ _ (hb a (b-1) (by omega) (by omega) (by omega) (by omega)) c
      .exact hb a b (by omega) (by omega) (by omega) (by omega)
theorem cC (o:Ord lt) {p:Array Nat}{m:Nat}(hp:xW n p) (h1:1<=m) (h2:m<=n) (hd:sW lt p m):yR n lt (kas_tail3 m n p) λ r=>xW n r.2/\r.1<=n/\uc lt r.2 r.1:=by
 refine yR.bind (yR.mono ?_ (eM o (mh hp 0 m) (n-m) m h1 (by omega) λ i j hij hj=>?_))
 .rintro k ⟨a1,a2,a3,_⟩;exact⟨mh hp 0 m,by omega,a3⟩
 .rw[mj hp h2,mj hp h2,if_pos ⟨Nat.zero_le _,by omega⟩,if_pos ⟨Nat.zero_le _,hj⟩];exact hd _ _ (by omega) (by omega)
theorem Ya (o:Ord lt) {p:Array Nat}{m:Nat}(hp:xW n p) (h1:1<=m) (h2:m<n) (hd:sW lt p m) (hl:lt (p.getD m 0) (p.getD (m-1) 0)=true):yR n lt (kas_descPart m n p) λ r=>xW n r.2/\r.1<=n/\uc lt r.2 r.1:=by
 refine yR.bind (yR.mono ?_ (js o (n-(m+1)) p (m+1) 0 hp (by omega) (by omega) (hd.next o h1 (o.as _ _ hl)) (by omega) λ a b a1 a2 b1 b2=>?_))
 .rintro⟨p',m',q'⟩ ⟨a1,a2,a3,a4,a5,a6⟩;dsimp only at a1 a2 a3 a4 a5 a6 ⊢;by_cases h0:q'>0
  .rw[if_pos h0];exact cC o (mh a1 _ _) (by omega) (by omega) (a4.of_eq o (rev_eq o a1 (i:=m'-(q' + 1)) (j:=m') (by omega) a6))
  .rw[if_neg h0];exact cC o a1 (by omega) (by omega) a4
 .have:a=b:=by omega
  subst this;exact o.refl _
theorem Oq (o:Ord lt) {p:Array Nat}(hp:xW n p) (h1:1<=n):yR n lt (kas_count n p) λ r=>xW n r.2/\r.1<=n/\uc lt r.2 r.1:=by
 refine yR.bind (yR.mono ?_ (eM o hp (n-1) 1 (Nat.le_refl _) (by omega) λ i j hij hj=>?_))
 .rintro m ⟨a1,a2,a3,a4⟩;by_cases hm:m=n
  .rw[if_pos (by simp[hm])];exact⟨hp,by omega,a3⟩
  .rw[if_neg (by simp[hm])];have hl:lt (p.getD m 0) (p.getD (m-1) 0)=true:=a4.resolve_left (by omega);by_cases h2:m>1
   .rw[if_pos h2];refine⟨hp.below (by omega),hp.below (by omega),?_⟩;cases c:lt (p.getD 0 0) (p.getD (m-1) 0) with
    | true=>exact⟨hp,by omega,a3⟩
    | false=>
     dsimp only;rw[if_neg Bool.false_ne_true];have all:∀ a b,0<=a->a<m->0<=b->b<m->Le lt (p.getD a 0) (p.getD b 0):=λ a b _ ha _ hb=>
      o.tr _ _ _ (a3 a (m-1) (by omega) (by omega)) (o.tr _ _ _ c (a3 0 b (by omega) hb))
     have e:=rev_eq o hp (i:=0) (j:=m) (by omega) all;refine Ya o (mh hp 0 m) (by omega) (by omega) (λ i j hij hj=>o.tr _ _ _ (e j).1 (o.tr _ _ _ (all _ _ (Nat.zero_le _) hj (Nat.zero_le _) (by omega)) (e i).2)) ?_;rw[mj hp (by omega),mj hp (by omega),if_neg (by omega),if_pos (by omega)];cases q:lt (p.getD m 0) (p.getD (0+m-1-(m-1)) 0) with
     | true=>rfl
     | false=>
      have:=o.tr _ _ _ (all (m-1) (0+m-1-(m-1)) (Nat.zero_le _) (by omega) (Nat.zero_le _) (by omega)) q;unfold Le at this;rw[this] at hl;cases hl
   .rw[if_neg h2];have e:m=1:=by omega
    subst e;refine Ya o hp (Nat.le_refl _) (by omega) (λ i j hij hj=>?_) hl;have:i=j:=by omega
    subst this;exact o.refl _
 .have:i=j:=by omega
  subst this;exact o.refl _
theorem gB {p:Array Nat}{k:Nat}(hp:xW n p) (hk:k<n) (hs:uc lt p k) (o:Ord lt):∀ (f l r:Nat),r-l<=f->l<=r->r<=k->(∀ i,i<l->Le lt (p.getD i 0) (p.getD k 0))->(∀ i,r<=i->i<k->lt (p.getD k 0) (p.getD i 0)=true)->
  yR n lt (kas_place p k f l r) λ m=>m<=k/\(∀ i,i<m->Le lt (p.getD i 0) (p.getD k 0))/\(∀ i,m<=i->i<k->lt (p.getD k 0) (p.getD i 0)=true)
 | 0,l,r,h0,h1,h2,ha,hb=>by
  have:l=r:=by omega
  subst this;exact⟨h2,ha,hb⟩
 | f+1,l,r,h0,h1,h2,ha,hb=>by
  unfold kas_place;by_cases hlr:l≥r
  .rw[if_pos hlr];have:l=r:=by omega
   subst this;exact⟨h2,ha,hb⟩
  .rw[if_neg hlr];refine⟨hp.below hk,hp.below (by omega),?_⟩;cases c:lt (p.getD k 0) (p.getD ((l+r)/2) 0) with
   | true=>
    dsimp only;rw[if_pos rfl];refine gB hp hk hs o f l ((l+r)/2) (by omega) (by omega) (by omega) ha λ i hi hik=>?_;cases q:lt (p.getD k 0) (p.getD i 0) with
    | true=>rfl
    | false=>
     have:=o.tr _ _ _ (hs ((l+r)/2) i hi hik) q;unfold Le at this;rw[this] at c;cases c
   | false=>
    dsimp only;rw[if_neg Bool.false_ne_true];refine gB hp hk hs o f ((l+r)/2+1) r (by omega) (by omega) h2 (λ i hi=>?_) hb;exact o.tr _ _ _ (hs i ((l+r)/2) (by omega) (by omega)) c
theorem YM (o:Ord lt):∀ (f:Nat) (p:Array Nat) (k:Nat),xW n p->k+f=n->uc lt p k->yR n lt (kas_bin f p k) λ r=>xW n r/\uc lt r n
 | 0,p,k,hp,h1,hs=>by
  have:k=n:=by omega
  subst this;exact⟨hp,hs⟩
 | f+1,p,k,hp,h1,hs=>by
  refine yR.bind (yR.mono ?_ (gB hp (by omega) hs o k 0 k (by omega) (Nat.zero_le _) (Nat.le_refl _) (λ i hi=>absurd hi (Nat.not_lt_zero _)) λ i hi hik=>absurd hik (by omega)));rintro l ⟨a1,a2,a3⟩;refine YM o f _ (k+1) (Array.Perm.trans (bubble_perm _ _ _) hp) (by omega) λ i j hij hj=>?_;have ev:∀ x,(bubble p k (k-l)).getD x 0=if x=l then p.getD k 0 else if l<x/\x<=k then p.getD (x-1) 0 else p.getD x 0:=λ x=>by
   have e:=getElem?_bubble (xs:=p) (src:=k) (by rw[hp.size];omega) (k-l) (by omega) x;rw[show k-(k-l)=l by omega] at e;split
   .rename_i h;rw[if_pos h] at e;exact mU e
   .rename_i h;rw[if_neg h] at e;split
    .rename_i h';rw[if_pos h'] at e;exact mU e
    .rename_i h';rw[if_neg h'] at e;exact mU e
  rw[ev i,ev j];by_cases hi:i=l
  .rw[if_pos hi];by_cases hj':j=l
   .rw[if_pos hj'];exact o.refl _
   .rw[if_neg hj',if_pos ⟨by omega,by omega⟩];exact o.as _ _ (a3 (j-1) (by omega) (by omega))
  .rw[if_neg hi];by_cases hj':j=l
   .rw[if_pos hj',if_neg (by omega)];exact a2 i (by omega)
   .rw[if_neg hj'];by_cases hi2:l<i/\i<=k
    .rw[if_pos hi2,if_pos ⟨by omega,by omega⟩];exact hs _ _ (by omega) (by omega)
    .rw[if_neg hi2];by_cases hj2:l<j/\j<=k
     .rw[if_pos hj2];exact hs _ _ (by omega) (by omega)
     .rw[if_neg hj2];exact hs _ _ hij (by omega)
theorem Vx (o:Ord lt) (h1:1<=n):yR n lt (kas_sort n) λ r=>xW n r/\uc lt r n:=by
 have hp:xW n (List.range n).toArray:=Array.Perm.refl _;refine yR.bind (yR.mono ?_ (Oq o hp h1));rintro⟨m,p⟩ ⟨a1,a2,a3⟩;dsimp only at a1 a2 a3 ⊢;by_cases hm:m<n
 .rw[if_pos hm];refine YM o _ p (max m 1) a1 (by omega) ?_;by_cases h0:m=0
  .subst h0;intro i j hij hj;have:i=j:=by omega
   subst this;exact o.refl _
  .rw[show max m 1=m by omega];exact a3
 .rw[if_neg hm];have:m=n:=by omega
  subst this;exact⟨a1,a3⟩
end
end L4
namespace L4
open PySem PySem.W PySem.Calls PyProof.Rows
section
variable {prog:Program}{w:World}{A:Around}{E:Value->Shared->Prop}{s:Shared}
def Core (prog:Program) (w:World) (A:Around) (E:Value->Shared->Prop) (vs:List Value) (Out:Array Value->Prop) (s6:Shared):Prop:=
 wpAny (model prog w) A (keyKind' vs.toArray) (fun κ s'=>s'=s6/\wpAny (model prog w) A ((sortRuns').run (SortSt.mk' κ (vs.toArray.zip vs.toArray) #[] 7 none))
  (λ r s''=>s''=s6/\failedOf r.2=none/\Out ((arrOf r.2).map (·.2))/\(arrOf r.2).size=vs.length) E s') E s6
theorem fg {a:Addr}{vs:List Value}{n:Nat}{P:PySem.Fin->Shared->Prop}{Out:Array Value->Prop}(ho:s.heap.get? a=some (seqObj "list" vs.toArray n)) (hz:vs.length<=sizeLine)
  (core:2<=vs.length->∀ s6:Shared,(∀ b o,b≠a->s.heap.get? b=some o->s6.heap.get? b=some o)->Core prog w A E vs Out s6) (short:vs.length<2->Out vs.toArray)
  (fin:∀ out:Array Value,Out out->out.size=vs.length->P (.done (.ret .none)) { s with heap:=sortedHeap s.heap a vs out }):
  wpAny (model prog w) A (Builtin.«list.sort» ⟨[.ref a],[]⟩) P E s:=by
 have ha:a<s.heap.objs.size:=Heap.lt_size ho;obtain⟨e1,g1⟩:∃ e1,(s.heap.update a (Obj.mapSeq λ _=>#[])).get? a=some (seqObj "list" #[] e1):=⟨_,get?_update_seq ho (λ _=>#[])⟩
 have hz':vs.toArray.size<=sizeLine:=by rw[List.size_toArray];exact hz
 have g6:(((s.heap.update a (Obj.mapSeq λ _=>#[])).push (seqObj "tuple" vs.toArray 0)).push (seqObj "list" #[] 0)).get? a=some (seqObj "list" #[] e1):=zHp _ (zHp _ g1);have keep:∀ b o,b≠a->s.heap.get? b=some o->(((s.heap.update a (Obj.mapSeq λ _=>#[])).push (seqObj "tuple" vs.toArray 0)).push (seqObj "list" #[] 0)).get? b=some o:=
  λ b o hb e=>zHp _ (zHp _ (by rw[Heap.get?_update_ne _ _ _ _ hb];exact e))
 rw[list_sort_plain];refine zWb (listItems_at ho rfl (zWb (listUpdate_at ho rfl (zWb (seqEpoch_at g1 rfl (zWb (wpAny_newTuple (zWb (wpAny_newList (wpAny_holding ?_))) (by simpa using hz))))) hz' (Nat.zero_le _))));by_cases h2:vs.toArray.size<2
 .rw[if_pos h2,if_pos h2];have e2:(arrOf (SortSt.mk' general' (vs.toArray.zip vs.toArray) #[] 7 none)).map (·.2)=vs.toArray:=by
   show (vs.toArray.zip vs.toArray).map (·.2)=vs.toArray;apply Array.ext (by simp);intro i h1 h2;simp
  refine zWb (wpAny_pure ?_);dsimp only;rw[StateT.run_pure];refine zWb (wpAny_pure ?_);dsimp only;refine zWb (seqEpoch_at g6 rfl (zWb (listUpdate_at g6 rfl ?_ (Nat.zero_le _) ?_)))
  .simp only[bne_self_eq_false,Bool.false_eq_true,if_false];have q:=fin _ (e2▸short (by simpa using h2)) (by rw[e2];simp);exact wpAny_pure q
  .show (((arrOf (SortSt.mk' general' (vs.toArray.zip vs.toArray) #[] 7 none)).map (·.2))).size<=sizeLine+1;rw[e2];omega
 .rw[if_neg h2,if_neg h2];have h2':2<=vs.length:=by simpa using h2
  refine zWb (wpAny_mono (core h2' _ keep) (fun κ s7 ⟨hs,h7⟩=>?_) λ _ _ z=>z);subst hs;refine zWb (wpAny_mono h7 (λ r s8 ⟨hs,hf,hout,hsz⟩=>?_) λ _ _ z=>z);subst hs;obtain⟨⟨⟩,st⟩:=r;refine zWb (seqEpoch_at g6 rfl (zWb (listUpdate_at g6 rfl ?_ (Nat.zero_le _) ?_)))
  .have hf':failedOf st=none:=hf;rw[hf'];simp only[bne_self_eq_false,Bool.false_eq_true,if_false];exact wpAny_pure (fin _ hout (by rw[Array.size_map];exact hsz))
  .show ((arrOf st).map (·.2)).size<=sizeLine+1;rw[Array.size_map];have:(arrOf st).size=vs.length:=hsz;omega
theorem Vv {l:Addr}{vs:List Value}{Q:Value->Shared->Prop}{Out:Array Value->Prop}(hl:s.heap.IsList l vs.toArray) (hz:vs.length<=sizeLine)
  (core:2<=vs.length->∀ s6:Shared,(∀ b o,s.heap.get? b=some o->s6.heap.get? b=some o)->Core prog w A.in1.in1 E vs Out s6) (short:vs.length<2->Out vs.toArray)
  (fin:∀ out:Array Value,Out out->out.size=vs.length->Q (.ref (s.heap.objs.size+1)) { s with heap:=sortedAll s.heap vs out }):
  wpAny (model prog w) A (call (.builtin "sorted") [.ref l]) Q E s:=by
 have hsz:((s.heap.push (seqObj "list" #[] 0)).update s.heap.objs.size (Obj.mapSeq (·++vs.toArray))).objs.size=s.heap.objs.size+1:=by
  rw[Heap.size_update,size_push']
 have hoL:(((s.heap.push (seqObj "list" #[] 0)).update s.heap.objs.size (Obj.mapSeq (·++vs.toArray))).push (seqObj "list" vs.toArray 0)).get? (s.heap.objs.size+1)=some (seqObj "list" vs.toArray 0):=hsz▸Heap.get?_push_size _ rfl;have keep:∀ b o,s.heap.get? b=some o->(((s.heap.push (seqObj "list" #[] 0)).update s.heap.objs.size (Obj.mapSeq (·++vs.toArray))).push (seqObj "list" vs.toArray 0)).get? b=some o:=λ b o q=>
  zHp _ (by rw[Heap.get?_update_ne _ _ _ _ (Nat.ne_of_lt (Heap.lt_size q))];exact zHp _ q)
 refine Calls.call_function_entry kind_sorted plain_sorted entry_sorted (args_sorted1 _) ?_;unfold Builtin.«sorted»;refine zWb (m:=checkCount "sorted" 1 1 _) (wpAny_pure (zWb (collect_list hl (zWb (wpAny_newList ?_ hz)) hz)));show wpAny _ _ _ _ _ { s with heap:=((s.heap.push (seqObj "list" #[] 0)).update s.heap.objs.size (Obj.mapSeq (·++vs.toArray))).push (seqObj "list" vs.toArray 0) };rw[hsz];refine zWb (wpAny_holding (wpAny_call_entry slot_list_sort ⟨_,hoL,rfl⟩ entry_list_sort (fg hoL hz (λ h2 s6 k=>core h2 s6 λ b o q=>k b o ?_ (keep b o q)) short λ out h1 h2=>⟨_,rfl,?_⟩) (args_list_sort _)))
 .exact Nat.ne_of_lt (Nat.lt_succ_of_lt (Heap.lt_size q))
 .exact wpAny_pure ⟨_,rfl,fin out h1 h2⟩
end
end L4
namespace L4
open PySem PySem.W PySem.Calls PyProof.Rows L2
theorem fk:∀ a b:List Int,HT.lexLt a b=true->HT.lexLt b a=false
 | [],[],h=>by cases h
 | [],_::_,_=>rfl
 | _::_,[],h=>by cases h
 | x::a,y::b,h=>by
  rw[HT.qm] at h ⊢;by_cases e:x=y
  .subst e;rw[if_pos rfl] at h ⊢;exact fk a b h
  .rw[if_neg e] at h;rw[if_neg (Ne.symm e)];have:=of_decide_eq_true h;exact decide_eq_false (by omega)
theorem aV:∀ a b:List Int,HT.lexLt a b=false->HT.lexLt b a=false->a=b
 | [],[],_,_=>rfl
 | [],_::_,h,_=>by cases h
 | _::_,[],_,h=>by cases h
 | x::a,y::b,h,h'=>by
  rw[HT.qm] at h h';by_cases e:x=y
  .subst e;rw[if_pos rfl] at h h';rw[aV a b h h']
  .rw[if_neg e] at h;rw[if_neg (Ne.symm e)] at h';have h1:=of_decide_eq_false h;have h2:=of_decide_eq_false h';omega
theorem fj:∀ a b c:List Int,HT.lexLt b a=false->HT.lexLt c b=false->HT.lexLt c a=false
 | [],[],[],_,_=>rfl
 | [],[],_::_,_,h=>h
 | [],_::_,[],_,h=>by cases h
 | [],_::_,_::_,_,_=>rfl
 | _::_,[],_,h,_=>by cases h
 | _::_,_::_,[],_,h=>by cases h
 | x::a,y::b,z::c,h,h'=>by
  rw[HT.qm] at h h' ⊢;by_cases e1:y=x
  .subst e1;rw[if_pos rfl] at h;by_cases e2:z=y
   .subst e2;rw[if_pos rfl] at h' ⊢;exact fj a b c h h'
   .rw[if_neg e2] at h' ⊢;exact h'
  .rw[if_neg e1] at h;have h1:=of_decide_eq_false h;by_cases e2:z=y
   .subst e2;rw[if_neg e1];exact h
   .rw[if_neg e2] at h';have h2:=of_decide_eq_false h';rw[if_neg (by omega)];exact decide_eq_false (by omega)
theorem gE {α:Type}{r:α->α->Prop}(an:∀ a b,r a b->r b a->a=b):∀ {l₁ l₂:List α},l₁.Perm l₂->l₁.Pairwise r->l₂.Pairwise r->l₁=l₂
 | [],l₂,h,_,_=>(List.nil_perm.mp h).symm
 | a::l₁,[],h,_,_=>absurd (List.perm_nil.mp h) (by simp)
 | a::l₁,b::l₂,h,h1,h2=>by
  have hab:a=b:=by
   have ha:a∈b::l₂:=h.mem_iff.mp zMc;have hb:b∈a::l₁:=h.mem_iff.mpr zMc;rcases List.mem_cons.mp ha with e | ha
   .exact e
   .rcases List.mem_cons.mp hb with e | hb
    .exact e.symm
    .exact an _ _ (List.rel_of_pairwise_cons h1 hb) (List.rel_of_pairwise_cons h2 ha)
  subst hab;rw[gE an (List.Perm.cons_inv h) (List.pairwise_cons.mp h1).2 (List.pairwise_cons.mp h2).2]
noncomputable def wA (rows:List (List Int)):List (List Int):=rows.mergeSort λ a b=>!HT.lexLt b a
theorem t4 (rows:List (List Int)):(wA rows).Perm rows:=List.mergeSort_perm _ _
theorem i6 (rows:List (List Int)):(wA rows).Pairwise λ a b=>HT.lexLt b a=false:=by
 have:=List.pairwise_mergeSort (le:=λ a b:List Int=>!HT.lexLt b a) (λ a b c h1 h2=>by simp at h1 h2 ⊢;exact fj a b c h1 h2)
  (λ a b=>by
   cases h:HT.lexLt b a with
   | false=>simp
   | true=>simp[fk b a h]) rows
 exact this.imp λ h=>by simpa using h
theorem cI {rows out:List (List Int)}(hp:out.Perm rows) (hs:out.Pairwise λ a b=>HT.lexLt b a=false):out=wA rows:=
 gE (λ a b h1 h2=>aV a b h2 h1) (hp.trans (t4 rows).symm) hs (i6 rows)
noncomputable def mf (rows:List (List Int)) (i j:Nat):Bool:=HT.lexLt (rows.getD i []) (rows.getD j [])
theorem VU (rows:List (List Int)):Ord (mf rows):=⟨λ _ _ _ h1 h2=>fj _ _ _ h1 h2,λ _ _ h=>fk _ _ h⟩
section
variable {prog:Program}{w:World}{A:Around}{E:Value->Shared->Prop}{s:Shared}{Q:Bool->Shared->Prop}
theorem Zf {b:Bool}:∀ (ns ms:List Int) (us ws:List Value) (i:Nat),IntsAre us ns->IntsAre ws ms->Q (HT.lexLt ns ms) s->KatLex prog w A b (decide (ns.length<ms.length)) Q (us.zip ws) i s
 | [],[],_,_,_,.nil,.nil,h=>kat_nil (by simpa [HT.lexLt] using h)
 | [],_::_,_,_,_,.nil,.cons _ _ _,h=>kat_nil (by simpa [HT.lexLt] using h)
 | _::_,[],_,_,_,.cons _ _ _,.nil,h=>kat_nil (by simpa [HT.lexLt] using h)
 | n::ns,m::ms,_,_,i,.cons _ t hu,.cons _ u hw,h=>by
  rw[HT.qm] at h;refine kat_cons (SeqAt.EqAt.int_int n t m u prog w _ _ (kat_go (λ e=>kat_yes ?_) λ e=>kat_no ?_))
  .have e':n=m:=by simpa using e
   rw[if_pos e'] at h;rw[show decide ((n::ns).length<(m::ms).length)=decide (ns.length<ms.length) by simp];exact Zf ns ms _ _ (i+1) hu hw h
  .have e':¬ n=m:=by simpa using e
   rw[if_neg e'] at h;cases b&&i == 0 with
   | true=>exact kat_lt_int h
   | false=>exact kat_one _ _ (lt_int h)
def rK (h:Heap):List Value->List (List Int)->Prop:=Paired λ v r=>r≠[]/\∃ b o its n,v=.ref b/\h.get? b=some o/\o.cls=.type "tuple"/\o.data=.seq its n/\IntsAre its.toList r
theorem rK.ZH {h:Heap}:∀ {vs:List Value}{rows:List (List Int)},rK h vs rows->∃ fs,KatTups h vs fs/\fs.length=vs.length/\∀ v∈fs,∃ n t,v=Value.int n t
 | _,_,.nil=>⟨[],KatTups.nil,rfl,λ _ hv=>absurd hv (by simp)⟩
 | _,_,.cons ⟨hne,b,o,its,n,hv,ho,hc,hd,hi⟩ r=>by
  obtain⟨fs,h1,h2,h3⟩:=rK.ZH r;subst hv;obtain⟨its⟩:=its;cases hi with
  | nil=>exact absurd rfl hne
  | cons k t _=>exact⟨.int k t::fs,KatTups.cons ho hc hd rfl h1,by simp[h2],λ v hv=>(List.mem_cons.mp hv).elim (λ e=>⟨k,t,e⟩) (h3 v)⟩
theorem Paired.at' {α β:Type}{F:α->β->Prop}:∀ {l₁:List α}{l₂:List β}{i:Nat},Paired F l₁ l₂->i<l₁.length->∀ (d:α) (e:β),F (l₁.getD i d) (l₂.getD i e)
 | _,_,_,.nil,h,_,_=>absurd h (by simp)
 | _,_,0,.cons r _,_,_,_=>r
 | _,_,i+1,.cons _ t,h,d,e=>by simpa using Paired.at' (i:=i) t (by simpa using h) d e
theorem rK.ask {vs:List Value}{rows:List (List Int)}{b:Bool}(r:rK s.heap vs rows) {i j:Nat}(hi:i<vs.length) (hj:j<vs.length) {C:Bool->Shared->Prop}(h:C (mf rows i j) s):kas_ask prog w A (tuples' b) vs i j C s:=by
 obtain⟨_,b1,o1,its1,n1,e1,g1,_,d1,q1⟩:=Paired.at' r hi Value.none [];obtain⟨_,b2,o2,its2,n2,e2,g2,_,d2,q2⟩:=Paired.at' r hj Value.none [];unfold kas_ask;rw[e1,e2];refine kat_lt g1 d1 g2 d2 ?_;have l1:=q1.length;have l2:=q2.length;rw[Array.length_toList] at l1 l2;rw[l1,l2];exact Zf _ _ _ _ 0 q1 q2 h
theorem ck {α:Type}{n:Nat}{lt:Nat->Nat->Bool}{cmp:Nat->Nat->(Bool->Shared->Prop)->Shared->Prop}{Q:α->Shared->Prop}(hc:∀ i j C,i<n->j<n->C (lt i j) s->cmp i j C s):∀ {t:KasT α},yR n lt t (λ a=>Q a s)->t.kasWp cmp Q s
 | .ret _,h=>h
 | .ask i j _,h=>hc i j _ h.1 h.2.1 (ck hc h.2.2)
def lE (vs:List Value) (rows:List (List Int)) (out:Array Value):Prop:=
 ∃ idx:List Nat,idx.Perm (List.range vs.length)/\out.toList=idx.map (λ i=>vs.getD i Value.none)/\(idx.map λ i=>rows.getD i []).Pairwise λ a b=>HT.lexLt b a=false
theorem Vs {rows:List (List Int)}{p:Array Nat}{n:Nat}(hn:p.size=n) (h:uc (mf rows) p n):(p.toList.map λ i=>rows.getD i []).Pairwise λ a b=>HT.lexLt b a=false:=by
 rw[List.pairwise_map,List.pairwise_iff_getElem];intro i j hi hj hij;have:=h i j (Nat.le_of_lt hij) (by rw[<- hn];simpa using hj);simp only[Array.length_toList] at hi hj;unfold Le mf at this;simpa [Array.getD_eq_getD_getElem?,hi,hj] using this
theorem ej {vs:List Value}{rows:List (List Int)}(r:rK s.heap vs rows) (h2:2<=vs.length) (h64:vs.length<64):Core prog w A E vs (lE vs rows) s:=by
 obtain⟨fs,t,hl,hf⟩:=r.ZH;unfold Core;refine kat_kind (T:=.type "int") t (by omega) (λ v hv=>?_) rfl ⟨rfl,?_⟩
 .obtain⟨n,t,rfl⟩:=hf v hv;exact Looks.of_pure rfl
 .refine kat_run (ks:=vs) (Q:=λ st s''=>s''=s/\failedOf st=none/\lE vs rows ((arrOf st).map (·.2))/\(arrOf st).size=vs.length) (G:=λ p s''=>s''=s/\xW vs.length p/\uc (mf rows) p vs.length) rfl h2 h64 (λ p st s' hs ha hfl hg=>?_) ?_
  .obtain⟨h1,h3,h4⟩:=hg;refine⟨h1,hfl,⟨p.toList,?_,?_,Vs hs h4⟩,by rw[ha,Array.size_map];exact hs⟩
   .have:=Array.Perm.toList h3;simpa using this
   .rw[kat_snds rfl ha]
  .exact ck (λ i j C hi hj hC=>r.ask hi hj hC) (yR.mono (λ p hp=>⟨rfl,hp⟩) (Vx (VU rows) (by omega)))
end
section
variable {X:Cx}
theorem OA:y_ X (.builtin "sorted") (λ xs H Q=>∃ p ys,∃ rows:List (List Int),xs=[.ref p]/\yf X.K H p ys/\Paired (λ v r=>r≠[]/\∃ b,v=V.ref b/\ym X.K H b (r.map V.int)) ys rows/\rows.length<64/\
  ∀ (l:Addr) (idx:List Nat),H l=none->idx.Perm (List.range ys.length)->(idx.map λ i=>rows.getD i []).Pairwise (λ a b=>HT.lexLt b a=false)->Q (.ref l) (upd H l (.lst (idx.map λ i=>ys.getD i .zl)))):=by
 intro pins s σ H xs us Q I r h;obtain⟨p,ys,rows,rfl,hq,hr,h64,q⟩:=h;obtain⟨u,rfl,ru⟩:=vals1 r;cases ru;obtain⟨its,rv,pl,hz⟩:=I.list hq;have hl:=rv.length;have hlr:ys.length=rows.length:=Paired.length hr;have rows_at:∀ h6:Heap,(∀ b o,s.heap.get? b=some o->h6.get? b=some o)->rK h6 its rows:=λ h6 k=>by
  clear q hz hl hlr h64 hq pl r
  induction hr generalizing its with
  | nil=>cases rv;exact .nil
  | cons g t ih=>
   cases rv with
   | cons r1 r2=>
    refine .cons ?_ (ih _ r2);obtain⟨hne,b,rfl,hb⟩:=g;cases r1;obtain⟨its2,rv2,⟨o,e,hc,n,hd⟩,_⟩:=I.tuple hb;exact⟨hne,b,o,_,n,rfl,k _ _ e,hc,hd,by simpa using intsAre_of rv2⟩
 refine Vv (Out:=lE its rows) pl.isList (by rw[<- hl];exact hz) (λ h2 s6 k=>ej (rows_at _ k) h2 (by omega)) (λ h1=>?_) λ out ho hs=>?_
 .refine⟨List.range its.length,.refl _,?_,?_⟩
  .refine List.ext_getElem (by simp) λ i h1 h2=>?_;simp at h1;simp[h1]
  .rw[List.pairwise_map,List.pairwise_iff_getElem];intro i j hi hj hij;simp at hi hj;omega
 .obtain⟨idx,g1,g2,g3⟩:=ho;obtain⟨e,ho⟩:=sortedAll_at s.heap its out;have hfr:H (s.heap.objs.size+1)=none:=I.zJ.fresh (Nat.le_succ _);have g1':idx.Perm (List.range ys.length):=by rw[hl];exact g1
  refine⟨.ref (s.heap.objs.size+1),_,I.laid (t':=s.toks) (o:=.lst (idx.map λ i=>ys.getD i .zl)) (λ b o q=>sortedAll_old q) (Nat.le_succ _) ?_,rfl,q _ idx hfr g1' g3⟩;refine⟨by rw[List.length_map,g1'.length_eq,List.length_range];exact hz,out.toList,e,?_,by simpa using ho⟩;rw[g2];have hlt:∀ i∈idx,i<ys.length:=λ i hi=>by simpa using g1'.mem_iff.mp hi
  clear g1 g1' g2 g3 q
  induction idx with
  | nil=>exact .nil
  | cons i idx ih=>
   refine .cons ?_ (ih λ j hj=>hlt j (zMo _ hj));have hi:=hlt i zMc;obtain⟨u,e1,e2⟩:=rv.get (i:=i) (x:=ys[i]) (by simp[hi]);have e3:its.getD i Value.none=u:=by simp[e1]
   have e4:ys.getD i .zl=ys[i]:=by simp[hi]
   show RelV (ys.getD i .zl) (its.getD i Value.none);rw[e3,e4];exact e2
end
end L4
namespace L2
open PySem PySem.Spec PyProof.Rows
noncomputable def vT (ty T:String):Bool:=ty == T||(ty == "bool"&&T == "int")
noncomputable def ka (ty T:String):Bool:=PySem.W.kitMeta T&&decide ((fastBuiltinMro ty).map (λ l=>l.contains (Value.type T))=some (vT ty T))
theorem WE:(["NoneType","bool","int","str","tuple","list","dict"].all λ ty=>["int","bool","tuple","list","str"].all λ T=>ka ty T)=true:=by decide +kernel
theorem Qu {K:PySem.W.Frag}{ty T:String}(h:ka ty T=true):PySem.W.kitOne K (.type ty) (.type T)=some (vT ty T):=by
 unfold ka at h;rw[Bool.and_eq_true] at h;unfold PySem.W.kitOne;split
 .rename_i e;have e':ty=T:=by have:=eq_of_beq e;injection this
  subst e';simp[vT]
 .show (if PySem.W.kitMeta T=true then PySem.W.subIn K (.type ty) (.type T) else none)=_;rw[if_pos h.1];exact of_decide_eq_true h.2
noncomputable def YU (K:PySem.W.Frag) (H:Hp):V->String->Prop
 | .zl,t=>t="NoneType"
 | .bl _,t=>t="bool"
 | .int _,t=>t="int"
 | .str _,t=>t="str"
 | .ref a,t=>(t="tuple"/\∃ xs,ym K H a xs)\/(t="list"/\∃ xs,yf K H a xs)\/(t="dict"/\∃ kvs,H a=some (.dK kvs))
 | _,_=>False
theorem OQ {X:Cx}:y_ X (.builtin "isinstance") (λ xs H Q=>∃ x T ty,xs=[x,.ty T]/\YU X.K H x ty/\ka ty T=true/\Q (.bl (vT ty T)) H):=by
 intro pins s σ H xs us Q I r h;obtain⟨x,T,ty,rfl,hx,hT,q⟩:=h;obtain⟨u,c,rfl,ru,rc⟩:=vals2 r;cases (show c=Value.type T from rc);have e:PySem.W.kitOne X.K (.type ty) (.type T)=some (vT ty T):=Qu hT;have fin:∀ tk,EP X pins σ Q (.bool (vT ty T)) { s with toks:=tk }:=λ tk=>⟨.bl _,H,I.tok tk,rfl,q⟩;cases x with
 | zl=>cases (show u=Value.none from ru);cases (show ty=_ from hx);exact PySem.W.kia_one PySem.W.kitx_none I.uv True.intro e (λ z=>nomatch z) fin
 | bl y=>cases (show u=Value.bool y from ru);cases (show ty=_ from hx);exact PySem.W.kia_one PySem.W.kitx_bool I.uv True.intro e (λ z=>nomatch z) fin
 | int i=>obtain⟨t,rfl⟩:=(show ∃ t,u=Value.int i t from ru);cases (show ty=_ from hx);exact PySem.W.kia_one PySem.W.kitx_int I.uv True.intro e (λ z=>nomatch z) fin
 | str y=>obtain⟨t,rfl⟩:=(show ∃ t,u=Value.str y t from ru);cases (show ty=_ from hx);exact PySem.W.kia_one PySem.W.kitx_str I.uv True.intro e (λ z=>nomatch z) fin
 | ref a=>
  cases (show u=Value.ref a from ru);rcases hx with ⟨rfl,ys,hq⟩ | ⟨rfl,ys,hq⟩ | ⟨rfl,kvs,hq⟩
  .obtain⟨its,_,⟨o,h1,h2,_⟩,_⟩:=I.tuple hq;exact PySem.W.kia_one PySem.W.kitx_tuple I.uv ⟨o,h1,h2⟩ e (λ z=>nomatch z) fin
  .obtain⟨its,_,⟨o,n,h1,h2,_⟩,_⟩:=I.list hq;exact PySem.W.kia_one PySem.W.kitx_list I.uv ⟨o,h1,h2⟩ e (λ z=>nomatch z) fin
  .obtain⟨_,_,vs,_,p⟩:=(show xM X.prog X.w H s.heap a (.dK kvs) from I.zJ a _ hq)
   obtain⟨o,es,ep,h1,h2,_⟩:=p;exact PySem.W.kia_one PySem.W.kitx_dict I.uv ⟨o,h1,h2.1⟩ e (λ z=>nomatch z) fin
 | oW _=>exact hx.elim
 | jj _=>exact hx.elim
 | ty _=>exact hx.elim
end L2
namespace L3
open PySem PySem.Spec L2
open PyProof.Rows hiding St
section
variable {X:Cx}{K:PySem.W.Frag}{a b c e:Expr}{es:List Expr}{ta tb tc te:zH}{tA:yK}{pos p q:Pos}
theorem vP (hm:X.mg "len"=none) (ha:wH X (e::es) tA) (hg:Gl X "len":=by rfl) (he:starEach (e::es) X.env=(false,eval e X.env)::starEach es X.env:=by rfl) (hpl:(backTo pos (starEach es X.env)).any (·.1)=false:=by rfl):PD X (.Call (.Name "len" p) (e::es) [] pos) (wy uS tA):=
 sg (rj (OM.or OL) hg hm PySem.boot_len ha.pa (by decide) (by decide) he hpl) uS.mo uS.fits ha.mo
theorem m6 (hm:X.mg "list"=none) (ha:wH X (e::es) tA) (hg:Gl X "list":=by rfl) (he:starEach (e::es) X.env=(false,eval e X.env)::starEach es X.env:=by rfl) (hpl:(backTo pos (starEach es X.env)).any (·.1)=false:=by rfl):PD X (.Call (.Name "list" p) (e::es) [] pos) (wy uR tA):=
 sg (ot OJ hg hm PyProof.Rows.boot_list ha.pa (by decide) (by decide) he hpl) uR.mo uR.fits ha.mo
theorem qX (hm:X.mg "tuple"=none) (ha:wH X (e::es) tA) (hg:Gl X "tuple":=by rfl) (he:starEach (e::es) X.env=(false,eval e X.env)::starEach es X.env:=by rfl) (hpl:(backTo pos (starEach es X.env)).any (·.1)=false:=by rfl):PD X (.Call (.Name "tuple" p) (e::es) [] pos) (wy uQ tA):=
 sg (ot O6 hg hm PyProof.Rows.boot_tuple ha.pa (by decide) (by decide) he hpl) uQ.mo uQ.fits ha.mo
abbrev ZK:w6:=u0 λ i j=>.int (if j>i then j else i)
abbrev ZJ:w6:=u0 λ i j=>.int (if j<i then j else i)
theorem kI (hm:X.mg "max"=none) (ha:wH X (e::es) tA) (hc:X.calm=true:=by rfl) (hg:Gl X "max":=by rfl) (he:starEach (e::es) X.env=(false,eval e X.env)::starEach es X.env:=by rfl) (hpl:(backTo pos (starEach es X.env)).any (·.1)=false:=by rfl):PD X (.Call (.Name "max" p) (e::es) [] pos) (wy ZK tA):=
 sg (rj (OI hc) hg hm boot_max ha.pa (by decide) (by decide) he hpl) u0.mo (u0.fits λ _ _ _=>by simp only[zk]) ha.mo
theorem rn (hm:X.mg "min"=none) (ha:wH X (e::es) tA) (hc:X.calm=true:=by rfl) (hg:Gl X "min":=by rfl) (he:starEach (e::es) X.env=(false,eval e X.env)::starEach es X.env:=by rfl) (hpl:(backTo pos (starEach es X.env)).any (·.1)=false:=by rfl):PD X (.Call (.Name "min" p) (e::es) [] pos) (wy ZJ tA):=
 sg (rj (OH hc) hg hm boot_min ha.pa (by decide) (by decide) he hpl) u0.mo (u0.fits λ _ _ _=>by simp only[zk]) ha.mo
noncomputable def wY (r:List Int):D:=.tup (r.map D.int)
theorem me {H:Hp}:∀ {rows:List (List Int)}{ys:List V},zv K H (rows.map wY) ys->(∀ r∈rows,r≠[])->Paired (λ v r=>r≠[]/\∃ b,v=V.ref b/\ym K H b (r.map V.int)) ys rows
 | [],ys,h,_=>by simp only[List.map_nil,zv] at h;subst h;exact .nil
 | r::rows,ys,h,hn=>by
  rw[List.map_cons] at h;simp only[zv,wY,zk] at h;obtain⟨x,ys',rfl,⟨a,xs,rfl,g1,g2⟩,h3⟩:=h;rw[g2.ints] at g1;exact .cons ⟨hn r zMc,a,rfl,g1⟩ (me h3 λ r' hr=>hn r' (zMo _ hr))
theorem aO {α:Type}{rows:List α}{d:α}{idx:List Nat}(h:idx.Perm (List.range rows.length)):(idx.map λ i=>rows.getD i d).Perm rows:=by
 refine (h.map _).trans ?_;have:(List.range rows.length).map (λ i=>rows.getD i d)=rows:=by
  refine List.ext_getElem (by simp) λ i h1 h2=>?_;simp[h2]
 rw[this]
theorem zv.perm {H:Hp}{rows:List (List Int)}{ys:List V}(h:zv K H (rows.map wY) ys):∀ {idx:List Nat},(∀ i∈idx,i<rows.length)->zv K H ((idx.map λ i=>rows.getD i []).map wY) (idx.map λ i=>ys.getD i .zl)
 | [],_=>.nil
 | i::idx,hi=>by
  have h1:=hi i zMc;obtain⟨x,e1,e2⟩:=h.get (i:=i) (d:=wY rows[i]) (by simp[h1]);refine .cons ?_ (zv.perm h λ j hj=>hi j (zMo _ hj));have e3:ys.getD i .zl=x:=by simp[e1]
  have e4:rows.getD i []=rows[i]:=by simp[h1]
  show zk K H (wY (rows.getD i [])) (ys.getD i .zl);rw[e3,e4];exact e2
theorem qW {tg:Expr}(hm:X.mg "range"=none) (ha:wH X [a] tA) (hg:Gl X "range":=by rfl) (hs:starEach [a] X.env=[(false,eval a X.env)]:=by rfl):pP X tg (.Call (.Name "range" p) [a] [] pos) (fx tA):=Tz (UE hg hm ha.pa hs) ha.mo
noncomputable def rX (d:D) (S:SS):Option String:=match d with
 | .zl=>some "NoneType"
 | .bl _=>some "bool"
 | .int _=>some "int"
 | .str _=>some "str"
 | .tup _=>some "tuple"
 | .xb _=>some "list"
 | .ref p=>match S p with
  | some (.lst _)=>some "list"
  | some (.yy _)=>some "dict"
  | none=>none
def oS (T:String) (te:zH):zH:=fun δ S Q=>te δ S λ x S1=>match rX x S1 with
 | some ty=>Q (.bl (vT ty T)) S1
 | none=>False
theorem rX.ok {H:Hp}{d:D}{v:V}{S:SS}{ty:String}(r:zk K H d v) (p:z_ K H S) (h:rX d S=some ty):YU K H v ty/\ty∈["NoneType","bool","int","str","tuple","list","dict"]:=by
 cases d with
 | zl=>simp only[zk] at r;subst r;cases h;exact⟨rfl,by simp⟩
 | bl _=>simp only[zk] at r;subst r;cases h;exact⟨rfl,by simp⟩
 | int _=>simp only[zk] at r;subst r;cases h;exact⟨rfl,by simp⟩
 | str _=>simp only[zk] at r;subst r;cases h;exact⟨rfl,by simp⟩
 | tup ds=>
  simp only[zk] at r;obtain⟨a,xs,rfl,g1,_⟩:=r;cases h;exact⟨.inl ⟨rfl,xs,g1⟩,by simp⟩
 | xb ds=>
  simp only[zk] at r;obtain⟨a,xs,rfl,g1,_⟩:=r;cases h;exact⟨.inr (.inl ⟨rfl,xs,g1.sq⟩),by simp⟩
 | ref a=>
  simp only[zk] at r;subst r;unfold rX at h;dsimp only at h;split at h
  .rename_i e;cases h;obtain⟨xs,g1,_⟩:=p _ _ e;exact⟨.inr (.inl ⟨rfl,xs,yf.of g1⟩),by simp⟩
  .rename_i e;cases h;obtain⟨xs,g1,_⟩:=p _ _ e;exact⟨.inr (.inr ⟨rfl,xs,g1⟩),by simp⟩
  .cases h
theorem kJ {T:String}{x:Str}(hT:T∈["int","bool","tuple","list","str"]) (hm:X.mg "isinstance"=none) (hm2:X.mg x=none) (hv:bootBuiltins x=some (.type T)) (hg2:Gl X x) (hn:x≠"__name__") (hd:(x == ("__debug__":Str))=false) (he:PD X e te) (hg:Gl X "isinstance":=by rfl)
  (h1:starEach (e::[.Name x q]) X.env=(false,eval e X.env)::starEach [.Name x q] X.env:=by rfl) (h2:(backTo pos (starEach [.Name x q] X.env)).any (·.1)=false:=by rfl) (h3:starEach [.Name x q] X.env=(false,eval (.Name x q) X.env)::starEach [] X.env:=by rfl):
  PD X (.Call (.Name "isinstance" p) [e,.Name x q] [] pos) (oS T te):=by
 refine⟨fun δ S Q Q' hq z=>he.mo δ S _ _ (λ y S1 z=>?_) z,PE.imp (rj OQ hg hm boot_isinstance (qY he.pe (qY (Tn (v:=.ty T) hg2 hm2 hv rfl hn hd) o6 h3) h1) (by decide) (by decide) h1 h2) fun σ H Q hu=>?_⟩
 .split at z
  .exact hq _ _ z
  .exact z
 .obtain⟨δ,S,r1,r2,z⟩:=hu;refine yd.go he.mo r1 r2 z λ y S1 v H1 z1 q1 e1 p1=>?_;split at z1
  .rename_i ty ht;obtain⟨g1,g2⟩:=rX.ok q1 p1 ht;refine⟨v,T,ty,rfl,g1,?_,z1 _ H1 (by simp only[zk]) e1 p1⟩;exact List.all_eq_true.mp (List.all_eq_true.mp WE ty g2) T hT
  .exact z1.elim
theorem bX (T:Bt X.mg) (he:PD X e te) (hg:Gl X "isinstance":=by rfl) (hg2:Gl X "bool":=by rfl) (h1:starEach (e::[.Name "bool" q]) X.env=(false,eval e X.env)::starEach [.Name "bool" q] X.env:=by rfl) (h2:(backTo pos (starEach [.Name "bool" q] X.env)).any (·.1)=false:=by rfl) (h3:starEach [.Name "bool" q] X.env=(false,eval (.Name "bool" q) X.env)::starEach [] X.env:=by rfl):
  PD X (.Call (.Name "isinstance" p) [e,.Name "bool" q] [] pos) (oS "bool" te):=kJ (by simp) T.isinstance T.bool PyProof.Rows.boot_bool hg2 (by decide) (by decide) he hg h1 h2 h3
theorem bW (T:Bt X.mg) (he:PD X e te) (hg:Gl X "isinstance":=by rfl) (hg2:Gl X "int":=by rfl) (h1:starEach (e::[.Name "int" q]) X.env=(false,eval e X.env)::starEach [.Name "int" q] X.env:=by rfl) (h2:(backTo pos (starEach [.Name "int" q] X.env)).any (·.1)=false:=by rfl) (h3:starEach [.Name "int" q] X.env=(false,eval (.Name "int" q) X.env)::starEach [] X.env:=by rfl):
  PD X (.Call (.Name "isinstance" p) [e,.Name "int" q] [] pos) (oS "int" te):=kJ (by simp) T.isinstance T.int PyProof.Rows.boot_int hg2 (by decide) (by decide) he hg h1 h2 h3
theorem gG (T:Bt X.mg) (he:PD X e te) (hg:Gl X "isinstance":=by rfl) (hg2:Gl X "tuple":=by rfl) (h1:starEach (e::[.Name "tuple" q]) X.env=(false,eval e X.env)::starEach [.Name "tuple" q] X.env:=by rfl) (h2:(backTo pos (starEach [.Name "tuple" q] X.env)).any (·.1)=false:=by rfl) (h3:starEach [.Name "tuple" q] X.env=(false,eval (.Name "tuple" q) X.env)::starEach [] X.env:=by rfl):
  PD X (.Call (.Name "isinstance" p) [e,.Name "tuple" q] [] pos) (oS "tuple" te):=kJ (by simp) T.isinstance T.tuple PyProof.Rows.boot_tuple hg2 (by decide) (by decide) he hg h1 h2 h3
theorem qf {o:Expr}{to:zH}{apos cpos:Pos}(ho:PD X o to) (he:PD X e te)
  (hbase:attributeBase o "append" X.env (eval o X.env)=eval o X.env:=by rfl)
  (hfew:((backTo cpos (starEach [e] X.env)).all (λ x=>!x.1)&&(backToKw cpos (keywordEach [] X.env)).all (λ x=>x.1.isSome)
   && decide ([e].length+([]:List Keyword).length+(if ([]:List Keyword).isEmpty then 0 else 1)<30))=true:=by rfl)
  (hline:(apos.endLine == cpos.line)=true:=by rfl) (hs:starEach [e] X.env=(false,eval e X.env)::starEach [] X.env:=by rfl) (hplain:(backTo cpos (starEach [] X.env)).any (·.1)=false:=by rfl):
  PD X (.Call (.Attribute o "append" apos) [e] [] cpos) (qA to te):=
 TN (o:=o) (e:=e) (bL PySem.F.plainAttrs_list PySem.F.slot_list_append PySem.F.type_list_append aN ho.pe (qY he.pe o6 hs) hbase hfew hline hs hplain) ho.mo he.mo
structure FD (P:Program) (w:World) (K:PySem.W.Frag) (mg:Str->Option Value) (base:Heap) (x:Str) (k:Nat) (ps:List Str) (sp:qD):Prop where
 ex:∃ (f:Addr) (fd:FuncData),tw P w K mg base uh k f fd ps (sZ K sp)/\mg x=some (.ref f)/\PySem.W.keepIn K (.ref f)=true/\Binds K fd ps []
 mo:eU sp
theorem ya {x:Str}{k:Nat}{ps:List Str}{sp:qD}(F:FD X.prog X.w X.K X.mg X.base x k ps sp) (hr:yS k X.A) (ha:wH X (e::es) tA) (hg:Gl X x:=by rfl) (hdb:(x == ("__debug__":Str))=false:=by decide)
  (he:starEach (e::es) X.env=(false,eval e X.env)::starEach es X.env:=by rfl) (hpl:(backTo pos (starEach es X.env)).any (·.1)=false:=by rfl):PD X (.Call (.Name x p) (e::es) [] pos) (ei sp tA):=by
 obtain⟨⟨f,fd,h1,h2,h3,h4⟩,hm⟩:=F;exact TL (E:=E0) (Tj h1 hr hg h2 h3 h4 .nil TR ha.pa hdb he hpl) hm ha.mo
end
end L3
namespace L3
open PySem PySem.Spec L2
open PyProof.Rows hiding St
section
variable {P:Program}{w:World}{K:PySem.W.Frag}{mg:Str->Option Value}{base:Heap}{f:Addr}{fd:FuncData}
end
theorem Pn {S:SS}{p:Addr}{ds:List D}{Q:DK}(e:S p=some (.lst ds)) (h:Q (.tup ds) S):uQ [.ref p] S Q:=by
 unfold uQ;dsimp only;rw[e];exact h
theorem Po {S:SS}{d:D}{ds:List D}{Q:DK}(e:yw d S=some ds) (h:∀ p,S p=none->Q (.ref p) (ups S p (.lst ds))):uR [d] S Q:=by
 unfold uR;dsimp only;rw[e];exact h
theorem Pp {S:SS}{d:D}{ds:List D}{Q:DK}(e:yw d S=some ds) (h:Q (.int ds.length) S):uS [d] S Q:=by
 unfold uS;dsimp only;rw[e];exact h
theorem WL {S:SS}{p:Addr}{ds:List D}{Q:Bool->SS->Prop}(e:S p=some (.lst ds)) (h:Q (!ds.isEmpty) S):uj (.ref p) S Q:=by
 unfold uj;dsimp only;rw[e];exact h
theorem Pt {S:SS}{p:Addr}{ds:List D}{i:Int}{d:D}{Q:DK}(e:S p=some (.lst ds)) (e2:L2.yh ds i=some d) (h:Q d S):vk (.ref p) (.int i) S Q:=by
 unfold vk;dsimp only;rw[e];dsimp only;rw[e2];exact h
theorem Pq {S:SS}{ds:List D}{i:Int}{d:D}{Q:DK}(e2:L2.yh ds i=some d) (h:Q d S):vk (.tup ds) (.int i) S Q:=by
 unfold vk;dsimp only;rw[e2];exact h
theorem Pr {S:SS}{ds:List D}{i:Int}{d:D}{Q:DK}(e2:L2.yh ds i=some d) (h:Q d S):vk (.xb ds) (.int i) S Q:=by
 unfold vk;dsimp only;rw[e2];exact h
end L3
namespace L3
open PySem PySem.Spec L2
open PyProof.Rows hiding St
inductive T where
 | zl | bl (b:Bool) | int (i:Int) | str (x:Str) | tup (ts:List T) | lst (ts:List T) | yk
mutual
noncomputable def eqT:T->T->Bool
 | .zl,.zl=>true
 | .bl a,.bl b=>a == b
 | .bl a,.int b=>(if a then 1 else 0) == b
 | .int a,.bl b=>a == (if b then 1 else 0)
 | .int a,.int b=>a == b
 | .str a,.str b=>a == b
 | .tup a,.tup b=>we a b
 | .lst a,.lst b=>we a b
 | .yk,.yk=>true
 | _,_=>false
noncomputable def we:List T->List T->Bool
 | [],[]=>true
 | a::as,b::bs=>eqT a b&&we as bs
 | _,_=>false
end
mutual
noncomputable def dep:T->Nat
 | .tup ts=>1+yC ts
 | .lst ts=>1+yC ts
 | .yk=>cLine
 | _=>0
noncomputable def yC:List T->Nat
 | []=>0
 | t::ts=>max (dep t) (yC ts)
end
noncomputable def gK:List T->Bool
 | []=>true
 | .int _::ts=>gK ts
 | _=>false
theorem Sz (ns:List Int):gK (ns.map T.int)=true:=by
 induction ns with
 | nil=>rfl
 | cons n ns ih=>exact ih
mutual
noncomputable def Sn (S:SS):T->D->Prop
 | .zl,d=>d=.zl
 | .bl b,d=>d=.bl b
 | .int i,d=>d=.int i
 | .str x,d=>d=.str x
 | .tup ts,d=>∃ ds,d=.tup ds/\zu S ts ds
 | .lst ts,d=>∃ ds,((d=.xb ds/\gK ts=true)\/∃ a,d=.ref a/\S a=some (.lst ds))/\zu S ts ds
 | .yk,d=>∃ a kvs,d=.ref a/\S a=some (.yy kvs)
noncomputable def zu (S:SS):List T->List D->Prop
 | [],ds=>ds=[]
 | t::ts,ds=>∃ c cs,ds=c::cs/\Sn S t c/\zu S ts cs
end
mutual
theorem jr:∀ t:T,eqT t t=true
 | .zl=>by simp[eqT]
 | .bl b=>by simp[eqT]
 | .int i=>by simp[eqT]
 | .str x=>by simp[eqT]
 | .tup ts=>by simp only[eqT];exact fW ts
 | .lst ts=>by simp only[eqT];exact fW ts
 | .yk=>by simp[eqT]
theorem fW:∀ ts:List T,we ts ts=true
 | []=>by simp[we]
 | t::ts=>by simp only[we,jr t,fW ts,Bool.and_self]
end
theorem sG:∀ ts us:List T,we ts us=((List.range (min ts.length us.length)).all (λ j=>eqT (ts.getD j .zl) (us.getD j .zl))&&ts.length == us.length)
 | [],[]=>by simp[we]
 | [],_::_=>by simp[we]
 | _::_,[]=>by simp[we]
 | t::ts,u::us=>by
  simp only[we,sG ts us,List.length_cons];rw[show min (ts.length+1) (us.length+1)=min ts.length us.length+1 by omega,List.range_succ_eq_map,List.all_cons,List.all_map];have:(ts.length+1 == us.length+1)=(ts.length == us.length):=by rw[Bool.eq_iff_iff];simp
  rw[this,Bool.and_assoc];rfl
theorem zu.length {S:SS}:∀ {ts:List T}{ds:List D},zu S ts ds->ts.length=ds.length
 | [],ds,h=>by simp only[zu] at h;subst h;rfl
 | t::ts,ds,h=>by
  simp only[zu] at h;obtain⟨c,cs,rfl,_,h2⟩:=h;simp[zu.length h2]
section
variable {X:Cx}{pins:List (Addr×Obj)}{σ:St}{H:Hp}{s:Shared}{S:SS}
theorem Zo (I:Inv X pins σ H s) {a:Addr}{xs ys:List V}(h1:ym X.K H a xs) (h2:yf X.K H a ys):False:=by
 obtain⟨_,_,⟨o,e,c,_⟩,_⟩:=I.tuple h1;obtain⟨_,_,⟨o',n,e',c',_⟩,_⟩:=I.list h2;rw[e] at e';cases e';rw[c] at c'
 injection c' with q
 exact absurd q (by decide)
theorem Sn.xu (p:z_ X.K H S) {ts:List T}{d:D}{x:V}(h:Sn S (.lst ts) d) (r:zk X.K H d x):∃ a xs ds,x=.ref a/\yf X.K H a xs/\zv X.K H ds xs/\zu S ts ds:=by
 simp only[Sn] at h;obtain⟨ds,⟨h,_⟩ | ⟨a,h,e⟩,h2⟩:=h
 .subst h;simp only[zk] at r;obtain⟨a,xs,rfl,g1,g2⟩:=r;exact⟨a,xs,ds,rfl,g1.sq,g2,h2⟩
 .subst h;simp only[zk] at r;obtain⟨xs,g1,g2⟩:=p _ _ e;exact⟨a,xs,ds,r,yf.of g1,g2,h2⟩
theorem Sn.xr {ts:List T}{d:D}{x:V}(h:Sn S (.tup ts) d) (r:zk X.K H d x):∃ a xs ds,x=.ref a/\ym X.K H a xs/\zv X.K H ds xs/\zu S ts ds:=by
 simp only[Sn] at h;obtain⟨ds,rfl,h2⟩:=h;simp only[zk] at r;obtain⟨a,xs,rfl,g1,g2⟩:=r;exact⟨a,xs,ds,rfl,g1,g2,h2⟩
theorem Sn.pA (p:z_ X.K H S) {d:D}{x:V}(h:Sn S .yk d) (r:zk X.K H d x):∃ a vs,x=.ref a/\H a=some (.dK vs):=by
 simp only[Sn] at h;obtain⟨a,kvs,rfl,e⟩:=h;simp only[zk] at r;obtain⟨xs,g1,g2⟩:=p _ _ e;exact⟨a,xs,r,g1⟩
theorem Zs (I:Inv X pins σ H s) {a:Addr}{vs:List (Key×V)}(h:H a=some (.dK vs)):∃ o,s.heap.get? a=some o/\o.cls=.type "dict":=by
 obtain⟨_,_,_,_,o,_,_,e,c⟩:=(show xM X.prog X.w H s.heap a (.dK vs) from I.zJ a _ h)
 exact⟨o,e,c.1.1⟩
theorem Zp (I:Inv X pins σ H s) {a:Addr}{xs:List V}{vs:List (Key×V)}(h1:ym X.K H a xs) (h2:H a=some (.dK vs)):False:=by
 obtain⟨_,_,⟨o,e,c,_⟩,_⟩:=I.tuple h1;obtain⟨o',e',c'⟩:=Zs I h2;rw[e] at e';cases e';rw[c] at c'
 injection c' with q
 exact absurd q (by decide)
theorem Zr (I:Inv X pins σ H s) {a:Addr}{xs:List V}{vs:List (Key×V)}(h1:yf X.K H a xs) (h2:H a=some (.dK vs)):False:=by
 obtain⟨_,_,⟨o,n,e,c,_⟩,_⟩:=I.list h1;obtain⟨o',e',c'⟩:=Zs I h2;rw[e] at e';cases e';rw[c] at c'
 injection c' with q
 exact absurd q (by decide)
theorem Sn.flat {t:T}{d:D}{x:V}(h:Sn S t d) (r:zk X.K H d x):match t with
  | .zl=>x=.zl
  | .bl b=>x=.bl b
  | .int i=>x=.int i
  | .str y=>x=.str y
  | _=>True:=by
 cases t <;> first
  | trivial
  | (simp only[Sn] at h;subst h;simpa only [zk] using r)
mutual
theorem l_ (I:Inv X pins σ H s) (p:z_ X.K H S):∀ (t u:T) {d e:D}{x:V},Sn S t d->Sn S u e->zk X.K H d x->zk X.K H e x->t=u
 | .tup ts,u,d,e,x,h1,h2,r1,r2=>by
  obtain⟨a,xs,ds,rfl,g1,g2,g3⟩:=h1.xr r1;cases u with
  | yk=>obtain⟨_,_,q,g⟩:=h2.pA p r2;cases q;exact (Zp I g1 g).elim
  | tup us=>
   obtain⟨a',xs',ds',q,k1,k2,k3⟩:=h2.xr r2;cases q;have:=I.ir g1 k1;subst this;rw[iq I p ts us g3 k3 g2 k2]
  | lst us=>
   obtain⟨a',xs',ds',q,k1,k2,k3⟩:=h2.xu p r2;cases q;exact (Zo I g1 k1).elim
  | zl=>exact nomatch h2.flat r2
  | bl _=>exact nomatch h2.flat r2
  | int _=>exact nomatch h2.flat r2
  | str _=>exact nomatch h2.flat r2
 | .lst ts,u,d,e,x,h1,h2,r1,r2=>by
  obtain⟨a,xs,ds,rfl,g1,g2,g3⟩:=h1.xu p r1;cases u with
  | yk=>obtain⟨_,_,q,g⟩:=h2.pA p r2;cases q;exact (Zr I g1 g).elim
  | lst us=>
   obtain⟨a',xs',ds',q,k1,k2,k3⟩:=h2.xu p r2;cases q;have:=I.fh g1 k1;subst this;rw[iq I p ts us g3 k3 g2 k2]
  | tup us=>
   obtain⟨a',xs',ds',q,k1,k2,k3⟩:=h2.xr r2;cases q;exact (Zo I k1 g1).elim
  | zl=>exact nomatch h2.flat r2
  | bl _=>exact nomatch h2.flat r2
  | int _=>exact nomatch h2.flat r2
  | str _=>exact nomatch h2.flat r2
 | .zl,u,d,e,x,h1,h2,r1,r2=>by
  have q:=h1.flat r1;subst q;cases u with
  | yk=>obtain⟨_,_,q,g⟩:=h2.pA p r2;cases q
  | zl=>rfl
  | tup us=>obtain⟨_,_,_,q,_⟩:=h2.xr r2;cases q
  | lst us=>obtain⟨_,_,_,q,_⟩:=h2.xu p r2;cases q
  | bl _=>exact nomatch h2.flat r2
  | int _=>exact nomatch h2.flat r2
  | str _=>exact nomatch h2.flat r2
 | .bl b,u,d,e,x,h1,h2,r1,r2=>by
  have q:=h1.flat r1;subst q;cases u with
  | yk=>obtain⟨_,_,q,g⟩:=h2.pA p r2;cases q
  | bl _=>have q:=h2.flat r2;cases q;rfl
  | tup us=>obtain⟨_,_,_,q,_⟩:=h2.xr r2;cases q
  | lst us=>obtain⟨_,_,_,q,_⟩:=h2.xu p r2;cases q
  | zl=>exact nomatch h2.flat r2
  | int _=>exact nomatch h2.flat r2
  | str _=>exact nomatch h2.flat r2
 | .int b,u,d,e,x,h1,h2,r1,r2=>by
  have q:=h1.flat r1;subst q;cases u with
  | yk=>obtain⟨_,_,q,g⟩:=h2.pA p r2;cases q
  | int _=>have q:=h2.flat r2;cases q;rfl
  | tup us=>obtain⟨_,_,_,q,_⟩:=h2.xr r2;cases q
  | lst us=>obtain⟨_,_,_,q,_⟩:=h2.xu p r2;cases q
  | zl=>exact nomatch h2.flat r2
  | bl _=>exact nomatch h2.flat r2
  | str _=>exact nomatch h2.flat r2
 | .str b,u,d,e,x,h1,h2,r1,r2=>by
  have q:=h1.flat r1;subst q;cases u with
  | yk=>obtain⟨_,_,q,g⟩:=h2.pA p r2;cases q
  | str _=>have q:=h2.flat r2;cases q;rfl
  | tup us=>obtain⟨_,_,_,q,_⟩:=h2.xr r2;cases q
  | lst us=>obtain⟨_,_,_,q,_⟩:=h2.xu p r2;cases q
  | zl=>exact nomatch h2.flat r2
  | bl _=>exact nomatch h2.flat r2
  | int _=>exact nomatch h2.flat r2
 | .yk,u,d,e,x,h1,h2,r1,r2=>by
  obtain⟨a,vs,rfl,g⟩:=h1.pA p r1;cases u with
  | yk=>rfl
  | tup us=>obtain⟨_,_,_,q,g1,_⟩:=h2.xr r2;cases q;exact (Zp I g1 g).elim
  | lst us=>obtain⟨_,_,_,q,g1,_⟩:=h2.xu p r2;cases q;exact (Zr I g1 g).elim
  | zl=>exact nomatch h2.flat r2
  | bl _=>exact nomatch h2.flat r2
  | int _=>exact nomatch h2.flat r2
  | str _=>exact nomatch h2.flat r2
theorem iq (I:Inv X pins σ H s) (p:z_ X.K H S):∀ (ts us:List T) {ds es:List D}{xs:List V},zu S ts ds->zu S us es->zv X.K H ds xs->zv X.K H es xs->ts=us
 | [],us,ds,es,xs,h1,h2,r1,r2=>by
  have e:=h1.length.trans (r1.length.trans (r2.length.symm.trans h2.length.symm));cases us with
  | nil=>rfl
  | cons _ _=>simp at e
 | t::ts,[],ds,es,xs,h1,h2,r1,r2=>by
  have e:=h1.length.trans (r1.length.trans (r2.length.symm.trans h2.length.symm));simp at e
 | t::ts,u::us,ds,es,xs,h1,h2,r1,r2=>by
  simp only[zu] at h1 h2;obtain⟨c,cs,rfl,a1,a2⟩:=h1;obtain⟨c',cs',rfl,b1,b2⟩:=h2;simp only[zv] at r1 r2;obtain⟨y,ys,rfl,g1,g2⟩:=r1;obtain⟨y',ys',q,k1,k2⟩:=r2;cases q;rw[l_ I p t u a1 b1 g1 k1,iq I p ts us a2 b2 g2 k2]
end
theorem zu.get {ts:List T}{ds:List D}(h:zu S ts ds):∀ {j:Nat},j<ts.length->∃ c,ds[j]?=some c/\Sn S (ts.getD j .zl) c:=by
 induction ts generalizing ds with
 | nil=>intro j hj;simp at hj
 | cons t ts ih=>
  intro j hj;simp only[zu] at h;obtain⟨c,cs,rfl,h1,h2⟩:=h;cases j with
  | zero=>exact⟨c,rfl,h1⟩
  | succ j=>
   obtain⟨c',e,h3⟩:=ih h2 (j:=j) (by simpa using hj);exact⟨c',by simpa using e,by simpa using h3⟩
theorem Yb:∀ {ts:List T}{j:Nat},j<ts.length->dep (ts.getD j .zl)<=yC ts
 | [],j,h=>by simp at h
 | t::ts,0,_=>by simp only[yC,List.getD_cons_zero];omega
 | t::ts,j+1,h=>by
  have:=Yb (ts:=ts) (j:=j) (by simpa using h);simp only[yC,List.getD_cons_succ];omega
mutual
theorem ZO (I:Inv X pins σ H s) (p:z_ X.K H S):∀ (t u:T) {A:Around}{d e:D}{x y:V}{a b:Value},A.units+dep t<cLine->A.units+dep u<cLine->Sn S t d->Sn S u e->zk X.K H d x->zk X.K H e y->RelV x a->RelV y b->SeqAt.EqAt A s a b (eqT t u)
 | .zl,u,A,d,e,x,y,a,b,hu,hu',h1,h2,r1,r2,v1,v2=>by
  have q:=h1.flat r1;subst q;cases v1;cases u with
  | yk=>simp only[dep] at hu';omega
  | zl=>have q:=h2.flat r2;subst q;cases v2;simp only[eqT];exact SeqAt.EqAt.same _
  | bl b=>have q:=h2.flat r2;subst q;cases v2;simp only[eqT];exact SeqAt.EqAt.none_bool _
  | int i=>have q:=h2.flat r2;subst q;obtain⟨t,rfl⟩:=v2;simp only[eqT];exact SeqAt.EqAt.none_int _ _
  | str i=>have q:=h2.flat r2;subst q;obtain⟨t,rfl⟩:=v2;simp only[eqT];exact SeqAt.EqAt.none_str _ _
  | tup us=>obtain⟨a',xs',ds',rfl,k1,k2,k3⟩:=h2.xr r2;cases v2;obtain⟨_,_,pt,_⟩:=I.tuple k1;simp only[eqT];exact SeqAt.EqAt.none_tuple pt (by omega)
  | lst us=>obtain⟨a',xs',ds',rfl,k1,k2,k3⟩:=h2.xu p r2;cases v2;obtain⟨_,_,pl,_⟩:=I.list k1;simp only[eqT];exact SeqAt.EqAt.none_list pl.isList (by omega)
 | .bl c,u,A,d,e,x,y,a,b,hu,hu',h1,h2,r1,r2,v1,v2=>by
  have q:=h1.flat r1;subst q;cases v1;cases u with
  | yk=>simp only[dep] at hu';omega
  | zl=>have q:=h2.flat r2;subst q;cases v2;simp only[eqT];exact SeqAt.EqAt.bool_none _
  | bl b=>have q:=h2.flat r2;subst q;cases v2;simp only[eqT];exact SeqAt.EqAt.bool_bool _ _
  | int i=>have q:=h2.flat r2;subst q;obtain⟨t,rfl⟩:=v2;simp only[eqT];exact SeqAt.EqAt.bool_int _ _ _
  | str i=>have q:=h2.flat r2;subst q;obtain⟨t,rfl⟩:=v2;simp only[eqT];exact SeqAt.EqAt.bool_str _ _ _
  | tup us=>obtain⟨a',xs',ds',rfl,k1,k2,k3⟩:=h2.xr r2;cases v2;obtain⟨_,_,pt,_⟩:=I.tuple k1;simp only[eqT];exact SeqAt.EqAt.bool_tuple _ pt (by omega)
  | lst us=>obtain⟨a',xs',ds',rfl,k1,k2,k3⟩:=h2.xu p r2;cases v2;obtain⟨_,_,pl,_⟩:=I.list k1;simp only[eqT];exact SeqAt.EqAt.bool_list _ pl.isList (by omega)
 | .int c,u,A,d,e,x,y,a,b,hu,hu',h1,h2,r1,r2,v1,v2=>by
  have q:=h1.flat r1;subst q;obtain⟨tk,rfl⟩:=v1;cases u with
  | yk=>simp only[dep] at hu';omega
  | zl=>have q:=h2.flat r2;subst q;cases v2;simp only[eqT];exact SeqAt.EqAt.int_none _ _
  | bl b=>have q:=h2.flat r2;subst q;cases v2;simp only[eqT];exact SeqAt.EqAt.int_bool _ _ _
  | int i=>have q:=h2.flat r2;subst q;obtain⟨t,rfl⟩:=v2;simp only[eqT];exact SeqAt.EqAt.int_int _ _ _ _
  | str i=>have q:=h2.flat r2;subst q;obtain⟨t,rfl⟩:=v2;simp only[eqT];exact SeqAt.EqAt.int_str _ _ _ _
  | tup us=>obtain⟨a',xs',ds',rfl,k1,k2,k3⟩:=h2.xr r2;cases v2;obtain⟨_,_,pt,_⟩:=I.tuple k1;simp only[eqT];exact SeqAt.EqAt.int_tuple _ _ pt (by omega)
  | lst us=>obtain⟨a',xs',ds',rfl,k1,k2,k3⟩:=h2.xu p r2;cases v2;obtain⟨_,_,pl,_⟩:=I.list k1;simp only[eqT];exact SeqAt.EqAt.int_list _ _ pl.isList (by omega)
 | .str c,u,A,d,e,x,y,a,b,hu,hu',h1,h2,r1,r2,v1,v2=>by
  have q:=h1.flat r1;subst q;obtain⟨tk,rfl⟩:=v1;cases u with
  | yk=>simp only[dep] at hu';omega
  | zl=>have q:=h2.flat r2;subst q;cases v2;simp only[eqT];exact SeqAt.EqAt.str_none _ _
  | bl b=>have q:=h2.flat r2;subst q;cases v2;simp only[eqT];exact SeqAt.EqAt.str_bool _ _ _
  | int i=>have q:=h2.flat r2;subst q;obtain⟨t,rfl⟩:=v2;simp only[eqT];exact SeqAt.EqAt.str_int _ _ _ _
  | str i=>have q:=h2.flat r2;subst q;obtain⟨t,rfl⟩:=v2;simp only[eqT];exact SeqAt.EqAt.str_str _ _ _ _
  | tup us=>obtain⟨a',xs',ds',rfl,k1,k2,k3⟩:=h2.xr r2;cases v2;obtain⟨_,_,pt,_⟩:=I.tuple k1;simp only[eqT];exact SeqAt.EqAt.str_tuple _ _ pt (by omega)
  | lst us=>obtain⟨a',xs',ds',rfl,k1,k2,k3⟩:=h2.xu p r2;cases v2;obtain⟨_,_,pl,_⟩:=I.list k1;simp only[eqT];exact SeqAt.EqAt.str_list _ _ pl.isList (by omega)
 | .tup ts,u,A,d,e,x,y,a,b,hu,hu',h1,h2,r1,r2,v1,v2=>by
  have hd1:=h1;have hr1:=r1;obtain⟨l,xs,ds,rfl,g1,g2,g3⟩:=h1.xr r1;cases v1;obtain⟨its,w1,pt,_⟩:=I.tuple g1;simp only[dep] at hu;cases u with
  | yk=>simp only[dep] at hu';omega
  | zl=>have q:=h2.flat r2;subst q;cases v2;simp only[eqT];exact SeqAt.EqAt.tuple_none pt (by omega)
  | bl b=>have q:=h2.flat r2;subst q;cases v2;simp only[eqT];exact SeqAt.EqAt.tuple_bool _ pt (by omega)
  | int i=>have q:=h2.flat r2;subst q;obtain⟨t,rfl⟩:=v2;simp only[eqT];exact SeqAt.EqAt.tuple_int _ _ pt (by omega)
  | str i=>have q:=h2.flat r2;subst q;obtain⟨t,rfl⟩:=v2;simp only[eqT];exact SeqAt.EqAt.tuple_str _ _ pt (by omega)
  | tup us=>
   by_cases hlb:(Value.ref l)=b
   .subst hlb;have hy:y=.ref l:=RelV.inj v2 rfl;subst hy;have:=l_ I p (.tup ts) (.tup us) hd1 h2 hr1 r2;rw[<- this,jr];exact SeqAt.EqAt.same _
   .obtain⟨l',xs',ds',rfl,k1,k2,k3⟩:=h2.xr r2;cases v2;obtain⟨its',w2,pt',_⟩:=I.tuple k1;simp only[dep] at hu';have e1:its.toArray.size=ts.length:=by rw[List.size_toArray,<- w1.length,<- g2.length,<- g3.length]
    have e2:its'.toArray.size=us.length:=by rw[List.size_toArray,<- w2.length,<- k2.length,<- k3.length]
    have q:=SeqAt.RcAt.tuples (A:=A) (e:=λ j=>eqT (ts.getD j .zl) (us.getD j .zl)) pt pt' (by omega) λ j h1 h2=>by
     have:=p9 I p ts us (A:=A.in1) (by show A.units+1+yC ts<cLine;omega) (by show A.units+1+yC us<cLine;omega) g3 k3 g2 k2 w1 w2 j (by simpa using h1) (by simpa using h2);simpa using this
    rw[e1,e2] at q;have q':=SeqAt.EqAt.of_refs (λ z=>hlb (by rw[z])) q;simp only[eqT,sG];exact q'
  | lst us=>obtain⟨l',xs',ds',rfl,k1,k2,k3⟩:=h2.xu p r2;cases v2;obtain⟨_,_,pl,_⟩:=I.list k1;simp only[eqT];exact SeqAt.EqAt.tuple_list pt pl.isList (by omega)
 | .lst ts,u,A,d,e,x,y,a,b,hu,hu',h1,h2,r1,r2,v1,v2=>by
  have hd1:=h1;have hr1:=r1;obtain⟨l,xs,ds,rfl,g1,g2,g3⟩:=h1.xu p r1;cases v1;obtain⟨its,w1,pl,_⟩:=I.list g1;simp only[dep] at hu;cases u with
  | yk=>simp only[dep] at hu';omega
  | zl=>have q:=h2.flat r2;subst q;cases v2;simp only[eqT];exact SeqAt.EqAt.list_none pl.isList (by omega)
  | bl b=>have q:=h2.flat r2;subst q;cases v2;simp only[eqT];exact SeqAt.EqAt.list_bool _ pl.isList (by omega)
  | int i=>have q:=h2.flat r2;subst q;obtain⟨t,rfl⟩:=v2;simp only[eqT];exact SeqAt.EqAt.list_int _ _ pl.isList (by omega)
  | str i=>have q:=h2.flat r2;subst q;obtain⟨t,rfl⟩:=v2;simp only[eqT];exact SeqAt.EqAt.list_str _ _ pl.isList (by omega)
  | tup us=>obtain⟨l',xs',ds',rfl,k1,k2,k3⟩:=h2.xr r2;cases v2;obtain⟨_,_,pt,_⟩:=I.tuple k1;simp only[eqT];exact SeqAt.EqAt.list_tuple pl.isList pt (by omega)
  | lst us=>
   by_cases hlb:(Value.ref l)=b
   .subst hlb;have hy:y=.ref l:=RelV.inj v2 rfl;subst hy;have:=l_ I p (.lst ts) (.lst us) hd1 h2 hr1 r2;rw[<- this,jr];exact SeqAt.EqAt.same _
   .obtain⟨l',xs',ds',rfl,k1,k2,k3⟩:=h2.xu p r2;cases v2;obtain⟨its',w2,pl',_⟩:=I.list k1;simp only[dep] at hu';have e1:its.toArray.size=ts.length:=by rw[List.size_toArray,<- w1.length,<- g2.length,<- g3.length]
    have e2:its'.toArray.size=us.length:=by rw[List.size_toArray,<- w2.length,<- k2.length,<- k3.length]
    have hne:l≠l':=λ z=>hlb (by rw[z]);by_cases hsz:ts.length=us.length
    .have q:=SeqAt.RcAt.lists (A:=A) (e:=λ j=>eqT (ts.getD j .zl) (us.getD j .zl)) pl.isList pl'.isList (by rw[e1,e2];exact hsz) (by omega) λ j h1 h2=>by
      have:=p9 I p ts us (A:=A.in1) (by show A.units+1+yC ts<cLine;omega) (by show A.units+1+yC us<cLine;omega) g3 k3 g2 k2 w1 w2 j (by simpa using h1) (by simpa using h2);simpa using this
     rw[e1] at q;have q':=SeqAt.EqAt.of_refs hne q;simp only[eqT,sG];rw[<- hsz,Nat.min_self];simpa using q'
    .have q:=SeqAt.RcAt.lists_lengths (A:=A) pl.isList pl'.isList (by rw[e1,e2];simpa using hsz) (by omega);have q':=SeqAt.EqAt.of_refs hne q;simp only[eqT,sG];have:(ts.length == us.length)=false:=by simpa using hsz
     rw[this,Bool.and_false];exact q'
 | .yk,u,A,d,e,x,y,a,b,hu,hu',h1,h2,r1,r2,v1,v2=>by simp only[dep] at hu;omega
theorem p9 (I:Inv X pins σ H s) (p:z_ X.K H S):∀ (ts us:List T) {A:Around}{ds es:List D}{xs ys:List V}{its its':List Value},A.units+yC ts<cLine->A.units+yC us<cLine->zu S ts ds->zu S us es->zv X.K H ds xs->zv X.K H es ys->Vals xs its->Vals ys its'->
  ∀ (j:Nat) (h1:j<its.length) (h2:j<its'.length),SeqAt.EqAt A s its[j] its'[j] (eqT (ts.getD j .zl) (us.getD j .zl))
 | [],us,A,ds,es,xs,ys,its,its',hu,hu',s1,s2,r1,r2,v1,v2,j,h1,h2=>by
  rw[<- v1.length,<- r1.length,<- s1.length] at h1;simp at h1
 | t::ts,[],A,ds,es,xs,ys,its,its',hu,hu',s1,s2,r1,r2,v1,v2,j,h1,h2=>by
  rw[<- v2.length,<- r2.length,<- s2.length] at h2;simp at h2
 | t::ts,u::us,A,ds,es,xs,ys,its,its',hu,hu',s1,s2,r1,r2,v1,v2,j,h1,h2=>by
  simp only[zu] at s1 s2;obtain⟨c,cs,rfl,a1,a2⟩:=s1;obtain⟨c',cs',rfl,b1,b2⟩:=s2;simp only[zv] at r1 r2;obtain⟨y,ys,rfl,g1,g2⟩:=r1;obtain⟨y',ys',rfl,k1,k2⟩:=r2;cases v1 with
  | cons m1 m2=>
   cases v2 with
   | cons n1 n2=>
    simp only[yC] at hu hu';cases j with
    | zero=>simpa using ZO I p t u (A:=A) (by omega) (by omega) a1 b1 g1 k1 m1 n1
    | succ j=>simpa using p9 I p ts us (A:=A) (by omega) (by omega) a2 b2 g2 k2 m2 n2 j (by simpa using h1) (by simpa using h2)
end
end
end L3
namespace L3
open PySem PySem.Spec L2
open PyProof.Rows hiding St
section
variable {X:Cx}{pins:List (Addr×Obj)}{σ:St}{H:Hp}{s:Shared}{S:SS}
theorem Ua (I:Inv X pins σ H s) (p:z_ X.K H S):∀ (t u:T) {A:Around}{d e:D}{x y:V}{a b:Value},A.units+dep t<cLine->A.units+dep u<cLine->Sn S t d->Sn S u e->zk X.K H d x->zk X.K H e y->RelV x a->RelV y b->SeqAt.RcAt A s a b (eqT t u)
 | .zl,u,A,d,e,x,y,a,b,hu,hu',h1,h2,r1,r2,v1,v2=>by
  have q:=h1.flat r1;subst q;cases v1;cases u with
  | yk=>simp only[dep] at hu';omega
  | zl=>have q:=h2.flat r2;subst q;cases v2;simp only[eqT];exact SeqAt.RcAt.none_none
  | bl c2=>have q:=h2.flat r2;subst q;cases v2;simp only[eqT];exact SeqAt.RcAt.none_bool _
  | int c2=>have q:=h2.flat r2;subst q;obtain⟨tk2,rfl⟩:=v2;simp only[eqT];exact SeqAt.RcAt.none_int _ _
  | str c2=>have q:=h2.flat r2;subst q;obtain⟨tk2,rfl⟩:=v2;simp only[eqT];exact SeqAt.RcAt.none_str _ _
  | tup c2=>obtain⟨l',xs',ds',rfl,k1,k2,k3⟩:=h2.xr r2;cases v2;obtain⟨its',w2,pt',_⟩:=I.tuple k1;simp only[dep] at hu';simp only[eqT];exact SeqAt.RcAt.none_tuple pt' (by omega)
  | lst c2=>obtain⟨l',xs',ds',rfl,k1,k2,k3⟩:=h2.xu p r2;cases v2;obtain⟨its',w2,pl',_⟩:=I.list k1;simp only[dep] at hu';simp only[eqT];exact SeqAt.RcAt.none_list pl'.isList (by omega)
 | .bl c,u,A,d,e,x,y,a,b,hu,hu',h1,h2,r1,r2,v1,v2=>by
  have q:=h1.flat r1;subst q;cases v1;cases u with
  | yk=>simp only[dep] at hu';omega
  | zl=>have q:=h2.flat r2;subst q;cases v2;simp only[eqT];exact SeqAt.RcAt.bool_none _
  | bl c2=>have q:=h2.flat r2;subst q;cases v2;simp only[eqT];exact SeqAt.RcAt.bool_bool _ _
  | int c2=>have q:=h2.flat r2;subst q;obtain⟨tk2,rfl⟩:=v2;simp only[eqT];exact SeqAt.RcAt.bool_int _ _ _
  | str c2=>have q:=h2.flat r2;subst q;obtain⟨tk2,rfl⟩:=v2;simp only[eqT];exact SeqAt.RcAt.bool_str _ _ _
  | tup c2=>obtain⟨l',xs',ds',rfl,k1,k2,k3⟩:=h2.xr r2;cases v2;obtain⟨its',w2,pt',_⟩:=I.tuple k1;simp only[dep] at hu';simp only[eqT];exact SeqAt.RcAt.bool_tuple _ pt' (by omega)
  | lst c2=>obtain⟨l',xs',ds',rfl,k1,k2,k3⟩:=h2.xu p r2;cases v2;obtain⟨its',w2,pl',_⟩:=I.list k1;simp only[dep] at hu';simp only[eqT];exact SeqAt.RcAt.bool_list _ pl'.isList (by omega)
 | .int c,u,A,d,e,x,y,a,b,hu,hu',h1,h2,r1,r2,v1,v2=>by
  have q:=h1.flat r1;subst q;obtain⟨tk,rfl⟩:=v1;cases u with
  | yk=>simp only[dep] at hu';omega
  | zl=>have q:=h2.flat r2;subst q;cases v2;simp only[eqT];exact SeqAt.RcAt.int_none _ _
  | bl c2=>have q:=h2.flat r2;subst q;cases v2;simp only[eqT];exact SeqAt.RcAt.int_bool _ _ _
  | int c2=>have q:=h2.flat r2;subst q;obtain⟨tk2,rfl⟩:=v2;simp only[eqT];exact SeqAt.RcAt.int_int _ _ _ _
  | str c2=>have q:=h2.flat r2;subst q;obtain⟨tk2,rfl⟩:=v2;simp only[eqT];exact SeqAt.RcAt.int_str _ _ _ _
  | tup c2=>obtain⟨l',xs',ds',rfl,k1,k2,k3⟩:=h2.xr r2;cases v2;obtain⟨its',w2,pt',_⟩:=I.tuple k1;simp only[dep] at hu';simp only[eqT];exact SeqAt.RcAt.int_tuple _ _ pt' (by omega)
  | lst c2=>obtain⟨l',xs',ds',rfl,k1,k2,k3⟩:=h2.xu p r2;cases v2;obtain⟨its',w2,pl',_⟩:=I.list k1;simp only[dep] at hu';simp only[eqT];exact SeqAt.RcAt.int_list _ _ pl'.isList (by omega)
 | .str c,u,A,d,e,x,y,a,b,hu,hu',h1,h2,r1,r2,v1,v2=>by
  have q:=h1.flat r1;subst q;obtain⟨tk,rfl⟩:=v1;cases u with
  | yk=>simp only[dep] at hu';omega
  | zl=>have q:=h2.flat r2;subst q;cases v2;simp only[eqT];exact SeqAt.RcAt.str_none _ _
  | bl c2=>have q:=h2.flat r2;subst q;cases v2;simp only[eqT];exact SeqAt.RcAt.str_bool _ _ _
  | int c2=>have q:=h2.flat r2;subst q;obtain⟨tk2,rfl⟩:=v2;simp only[eqT];exact SeqAt.RcAt.str_int _ _ _ _
  | str c2=>have q:=h2.flat r2;subst q;obtain⟨tk2,rfl⟩:=v2;simp only[eqT];exact SeqAt.RcAt.str_str _ _ _ _
  | tup c2=>obtain⟨l',xs',ds',rfl,k1,k2,k3⟩:=h2.xr r2;cases v2;obtain⟨its',w2,pt',_⟩:=I.tuple k1;simp only[dep] at hu';simp only[eqT];exact SeqAt.RcAt.str_tuple _ _ pt' (by omega)
  | lst c2=>obtain⟨l',xs',ds',rfl,k1,k2,k3⟩:=h2.xu p r2;cases v2;obtain⟨its',w2,pl',_⟩:=I.list k1;simp only[dep] at hu';simp only[eqT];exact SeqAt.RcAt.str_list _ _ pl'.isList (by omega)
 | .tup c,u,A,d,e,x,y,a,b,hu,hu',h1,h2,r1,r2,v1,v2=>by
  obtain⟨l,xs,ds,rfl,g1,g2,g3⟩:=h1.xr r1;cases v1;obtain⟨its,w1,pt,_⟩:=I.tuple g1;simp only[dep] at hu;cases u with
  | yk=>simp only[dep] at hu';omega
  | zl=>have q:=h2.flat r2;subst q;cases v2;simp only[eqT];exact SeqAt.RcAt.tuple_none pt (by omega)
  | bl c2=>have q:=h2.flat r2;subst q;cases v2;simp only[eqT];exact SeqAt.RcAt.tuple_bool _ pt (by omega)
  | int c2=>have q:=h2.flat r2;subst q;obtain⟨tk2,rfl⟩:=v2;simp only[eqT];exact SeqAt.RcAt.tuple_int _ _ pt (by omega)
  | str c2=>have q:=h2.flat r2;subst q;obtain⟨tk2,rfl⟩:=v2;simp only[eqT];exact SeqAt.RcAt.tuple_str _ _ pt (by omega)
  | tup c2=>
   obtain⟨l',xs',ds',rfl,k1,k2,k3⟩:=h2.xr r2;cases v2;obtain⟨its',w2,pt',_⟩:=I.tuple k1;simp only[dep] at hu';have e1:its.toArray.size=c.length:=by rw[List.size_toArray,<- w1.length,<- g2.length,<- g3.length]
   have e2:its'.toArray.size=c2.length:=by rw[List.size_toArray,<- w2.length,<- k2.length,<- k3.length]
   have q:=SeqAt.RcAt.tuples (A:=A) (e:=λ j=>eqT (c.getD j .zl) (c2.getD j .zl)) pt pt' (by omega) λ j h1 h2=>by
    have:=p9 I p c c2 (A:=A.in1) (by show A.units+1+yC c<cLine;omega) (by show A.units+1+yC c2<cLine;omega) g3 k3 g2 k2 w1 w2 j (by simpa using h1) (by simpa using h2);simpa using this
   rw[e1,e2] at q;simp only[eqT,sG];exact q
  | lst c2=>obtain⟨l',xs',ds',rfl,k1,k2,k3⟩:=h2.xu p r2;cases v2;obtain⟨its',w2,pl',_⟩:=I.list k1;simp only[dep] at hu';simp only[eqT];exact SeqAt.RcAt.tuple_list pt pl'.isList (by omega)
 | .lst c,u,A,d,e,x,y,a,b,hu,hu',h1,h2,r1,r2,v1,v2=>by
  obtain⟨l,xs,ds,rfl,g1,g2,g3⟩:=h1.xu p r1;cases v1;obtain⟨its,w1,pl,_⟩:=I.list g1;simp only[dep] at hu;cases u with
  | yk=>simp only[dep] at hu';omega
  | zl=>have q:=h2.flat r2;subst q;cases v2;simp only[eqT];exact SeqAt.RcAt.list_none pl.isList (by omega)
  | bl c2=>have q:=h2.flat r2;subst q;cases v2;simp only[eqT];exact SeqAt.RcAt.list_bool _ pl.isList (by omega)
  | int c2=>have q:=h2.flat r2;subst q;obtain⟨tk2,rfl⟩:=v2;simp only[eqT];exact SeqAt.RcAt.list_int _ _ pl.isList (by omega)
  | str c2=>have q:=h2.flat r2;subst q;obtain⟨tk2,rfl⟩:=v2;simp only[eqT];exact SeqAt.RcAt.list_str _ _ pl.isList (by omega)
  | tup c2=>obtain⟨l',xs',ds',rfl,k1,k2,k3⟩:=h2.xr r2;cases v2;obtain⟨its',w2,pt',_⟩:=I.tuple k1;simp only[dep] at hu';simp only[eqT];exact SeqAt.RcAt.list_tuple pl.isList pt' (by omega)
  | lst c2=>
   obtain⟨l',xs',ds',rfl,k1,k2,k3⟩:=h2.xu p r2;cases v2;obtain⟨its',w2,pl',_⟩:=I.list k1;simp only[dep] at hu';have e1:its.toArray.size=c.length:=by rw[List.size_toArray,<- w1.length,<- g2.length,<- g3.length]
   have e2:its'.toArray.size=c2.length:=by rw[List.size_toArray,<- w2.length,<- k2.length,<- k3.length]
   by_cases hsz:c.length=c2.length
   .have q:=SeqAt.RcAt.lists (A:=A) (e:=λ j=>eqT (c.getD j .zl) (c2.getD j .zl)) pl.isList pl'.isList (by rw[e1,e2];exact hsz) (by omega) λ j h1 h2=>by
     have:=p9 I p c c2 (A:=A.in1) (by show A.units+1+yC c<cLine;omega) (by show A.units+1+yC c2<cLine;omega) g3 k3 g2 k2 w1 w2 j (by simpa using h1) (by simpa using h2);simpa using this
    rw[e1] at q;simp only[eqT,sG];rw[<- hsz,Nat.min_self];simpa using q
   .have q:=SeqAt.RcAt.lists_lengths (A:=A) pl.isList pl'.isList (by rw[e1,e2];simpa using hsz) (by omega);simp only[eqT,sG];have z:(c.length == c2.length)=false:=by simpa using hsz
    rw[z,Bool.and_false];exact q
 | .yk,u,A,d,e,x,y,a,b,hu,hu',h1,h2,r1,r2,v1,v2=>by simp only[dep] at hu;omega
theorem VZ (I:Inv X pins σ H s) (p:z_ X.K H S):∀ (t u:T) {A:Around}{d e:D}{x y:V}{a b:Value},A.units+dep t<cLine->A.units+dep u<cLine->Sn S t d->Sn S u e->zk X.K H d x->zk X.K H e y->RelV x a->RelV y b->SeqAt.RcNeAt A s a b (!eqT t u)
 | .zl,u,A,d,e,x,y,a,b,hu,hu',h1,h2,r1,r2,v1,v2=>by
  have q:=h1.flat r1;subst q;cases v1;cases u with
  | yk=>simp only[dep] at hu';omega
  | zl=>have q:=h2.flat r2;subst q;cases v2;simp only[eqT,Bool.not_false,Bool.not_true];exact SeqAt.RcNeAt.none_none
  | bl c2=>have q:=h2.flat r2;subst q;cases v2;simp only[eqT,Bool.not_false,Bool.not_true];exact SeqAt.RcNeAt.none_bool _
  | int c2=>have q:=h2.flat r2;subst q;obtain⟨tk2,rfl⟩:=v2;simp only[eqT,Bool.not_false,Bool.not_true];exact SeqAt.RcNeAt.none_int _ _
  | str c2=>have q:=h2.flat r2;subst q;obtain⟨tk2,rfl⟩:=v2;simp only[eqT,Bool.not_false,Bool.not_true];exact SeqAt.RcNeAt.none_str _ _
  | tup c2=>obtain⟨l',xs',ds',rfl,k1,k2,k3⟩:=h2.xr r2;cases v2;obtain⟨its',w2,pt',_⟩:=I.tuple k1;simp only[dep] at hu';simp only[eqT,Bool.not_false,Bool.not_true];exact SeqAt.RcNeAt.none_tuple pt' (by omega)
  | lst c2=>obtain⟨l',xs',ds',rfl,k1,k2,k3⟩:=h2.xu p r2;cases v2;obtain⟨its',w2,pl',_⟩:=I.list k1;simp only[dep] at hu';simp only[eqT,Bool.not_false,Bool.not_true];exact SeqAt.RcNeAt.none_list pl'.isList (by omega)
 | .bl c,u,A,d,e,x,y,a,b,hu,hu',h1,h2,r1,r2,v1,v2=>by
  have q:=h1.flat r1;subst q;cases v1;cases u with
  | yk=>simp only[dep] at hu';omega
  | zl=>have q:=h2.flat r2;subst q;cases v2;simp only[eqT,Bool.not_false,Bool.not_true];exact SeqAt.RcNeAt.bool_none _
  | bl c2=>have q:=h2.flat r2;subst q;cases v2;simp only[eqT];exact SeqAt.RcNeAt.bool_bool _ _
  | int c2=>have q:=h2.flat r2;subst q;obtain⟨tk2,rfl⟩:=v2;simp only[eqT];exact SeqAt.RcNeAt.bool_int _ _ _
  | str c2=>have q:=h2.flat r2;subst q;obtain⟨tk2,rfl⟩:=v2;simp only[eqT,Bool.not_false,Bool.not_true];exact SeqAt.RcNeAt.bool_str _ _ _
  | tup c2=>obtain⟨l',xs',ds',rfl,k1,k2,k3⟩:=h2.xr r2;cases v2;obtain⟨its',w2,pt',_⟩:=I.tuple k1;simp only[dep] at hu';simp only[eqT,Bool.not_false,Bool.not_true];exact SeqAt.RcNeAt.bool_tuple _ pt' (by omega)
  | lst c2=>obtain⟨l',xs',ds',rfl,k1,k2,k3⟩:=h2.xu p r2;cases v2;obtain⟨its',w2,pl',_⟩:=I.list k1;simp only[dep] at hu';simp only[eqT,Bool.not_false,Bool.not_true];exact SeqAt.RcNeAt.bool_list _ pl'.isList (by omega)
 | .int c,u,A,d,e,x,y,a,b,hu,hu',h1,h2,r1,r2,v1,v2=>by
  have q:=h1.flat r1;subst q;obtain⟨tk,rfl⟩:=v1;cases u with
  | yk=>simp only[dep] at hu';omega
  | zl=>have q:=h2.flat r2;subst q;cases v2;simp only[eqT,Bool.not_false,Bool.not_true];exact SeqAt.RcNeAt.int_none _ _
  | bl c2=>have q:=h2.flat r2;subst q;cases v2;simp only[eqT];exact SeqAt.RcNeAt.int_bool _ _ _
  | int c2=>have q:=h2.flat r2;subst q;obtain⟨tk2,rfl⟩:=v2;simp only[eqT];exact SeqAt.RcNeAt.int_int _ _ _ _
  | str c2=>have q:=h2.flat r2;subst q;obtain⟨tk2,rfl⟩:=v2;simp only[eqT,Bool.not_false,Bool.not_true];exact SeqAt.RcNeAt.int_str _ _ _ _
  | tup c2=>obtain⟨l',xs',ds',rfl,k1,k2,k3⟩:=h2.xr r2;cases v2;obtain⟨its',w2,pt',_⟩:=I.tuple k1;simp only[dep] at hu';simp only[eqT,Bool.not_false,Bool.not_true];exact SeqAt.RcNeAt.int_tuple _ _ pt' (by omega)
  | lst c2=>obtain⟨l',xs',ds',rfl,k1,k2,k3⟩:=h2.xu p r2;cases v2;obtain⟨its',w2,pl',_⟩:=I.list k1;simp only[dep] at hu';simp only[eqT,Bool.not_false,Bool.not_true];exact SeqAt.RcNeAt.int_list _ _ pl'.isList (by omega)
 | .str c,u,A,d,e,x,y,a,b,hu,hu',h1,h2,r1,r2,v1,v2=>by
  have q:=h1.flat r1;subst q;obtain⟨tk,rfl⟩:=v1;cases u with
  | yk=>simp only[dep] at hu';omega
  | zl=>have q:=h2.flat r2;subst q;cases v2;simp only[eqT,Bool.not_false,Bool.not_true];exact SeqAt.RcNeAt.str_none _ _
  | bl c2=>have q:=h2.flat r2;subst q;cases v2;simp only[eqT,Bool.not_false,Bool.not_true];exact SeqAt.RcNeAt.str_bool _ _ _
  | int c2=>have q:=h2.flat r2;subst q;obtain⟨tk2,rfl⟩:=v2;simp only[eqT,Bool.not_false,Bool.not_true];exact SeqAt.RcNeAt.str_int _ _ _ _
  | str c2=>have q:=h2.flat r2;subst q;obtain⟨tk2,rfl⟩:=v2;simp only[eqT];exact SeqAt.RcNeAt.str_str _ _ _ _
  | tup c2=>obtain⟨l',xs',ds',rfl,k1,k2,k3⟩:=h2.xr r2;cases v2;obtain⟨its',w2,pt',_⟩:=I.tuple k1;simp only[dep] at hu';simp only[eqT,Bool.not_false,Bool.not_true];exact SeqAt.RcNeAt.str_tuple _ _ pt' (by omega)
  | lst c2=>obtain⟨l',xs',ds',rfl,k1,k2,k3⟩:=h2.xu p r2;cases v2;obtain⟨its',w2,pl',_⟩:=I.list k1;simp only[dep] at hu';simp only[eqT,Bool.not_false,Bool.not_true];exact SeqAt.RcNeAt.str_list _ _ pl'.isList (by omega)
 | .tup c,u,A,d,e,x,y,a,b,hu,hu',h1,h2,r1,r2,v1,v2=>by
  obtain⟨l,xs,ds,rfl,g1,g2,g3⟩:=h1.xr r1;cases v1;obtain⟨its,w1,pt,_⟩:=I.tuple g1;simp only[dep] at hu;cases u with
  | yk=>simp only[dep] at hu';omega
  | zl=>have q:=h2.flat r2;subst q;cases v2;simp only[eqT,Bool.not_false,Bool.not_true];exact SeqAt.RcNeAt.tuple_none pt (by omega)
  | bl c2=>have q:=h2.flat r2;subst q;cases v2;simp only[eqT,Bool.not_false,Bool.not_true];exact SeqAt.RcNeAt.tuple_bool _ pt (by omega)
  | int c2=>have q:=h2.flat r2;subst q;obtain⟨tk2,rfl⟩:=v2;simp only[eqT,Bool.not_false,Bool.not_true];exact SeqAt.RcNeAt.tuple_int _ _ pt (by omega)
  | str c2=>have q:=h2.flat r2;subst q;obtain⟨tk2,rfl⟩:=v2;simp only[eqT,Bool.not_false,Bool.not_true];exact SeqAt.RcNeAt.tuple_str _ _ pt (by omega)
  | tup c2=>
   obtain⟨l',xs',ds',rfl,k1,k2,k3⟩:=h2.xr r2;cases v2;obtain⟨its',w2,pt',_⟩:=I.tuple k1;simp only[dep] at hu';have e1:its.toArray.size=c.length:=by rw[List.size_toArray,<- w1.length,<- g2.length,<- g3.length]
   have e2:its'.toArray.size=c2.length:=by rw[List.size_toArray,<- w2.length,<- k2.length,<- k3.length]
   have q:=SeqAt.RcNeAt.tuples (A:=A) (e:=λ j=>eqT (c.getD j .zl) (c2.getD j .zl)) pt pt' (by omega) λ j h1 h2=>by
    have:=p9 I p c c2 (A:=A.in1) (by show A.units+1+yC c<cLine;omega) (by show A.units+1+yC c2<cLine;omega) g3 k3 g2 k2 w1 w2 j (by simpa using h1) (by simpa using h2);simpa using this
   rw[e1,e2] at q;simp only[eqT,sG];exact q
  | lst c2=>obtain⟨l',xs',ds',rfl,k1,k2,k3⟩:=h2.xu p r2;cases v2;obtain⟨its',w2,pl',_⟩:=I.list k1;simp only[dep] at hu';simp only[eqT,Bool.not_false,Bool.not_true];exact SeqAt.RcNeAt.tuple_list pt pl'.isList (by omega)
 | .lst c,u,A,d,e,x,y,a,b,hu,hu',h1,h2,r1,r2,v1,v2=>by
  obtain⟨l,xs,ds,rfl,g1,g2,g3⟩:=h1.xu p r1;cases v1;obtain⟨its,w1,pl,_⟩:=I.list g1;simp only[dep] at hu;cases u with
  | yk=>simp only[dep] at hu';omega
  | zl=>have q:=h2.flat r2;subst q;cases v2;simp only[eqT,Bool.not_false,Bool.not_true];exact SeqAt.RcNeAt.list_none pl.isList (by omega)
  | bl c2=>have q:=h2.flat r2;subst q;cases v2;simp only[eqT,Bool.not_false,Bool.not_true];exact SeqAt.RcNeAt.list_bool _ pl.isList (by omega)
  | int c2=>have q:=h2.flat r2;subst q;obtain⟨tk2,rfl⟩:=v2;simp only[eqT,Bool.not_false,Bool.not_true];exact SeqAt.RcNeAt.list_int _ _ pl.isList (by omega)
  | str c2=>have q:=h2.flat r2;subst q;obtain⟨tk2,rfl⟩:=v2;simp only[eqT,Bool.not_false,Bool.not_true];exact SeqAt.RcNeAt.list_str _ _ pl.isList (by omega)
  | tup c2=>obtain⟨l',xs',ds',rfl,k1,k2,k3⟩:=h2.xr r2;cases v2;obtain⟨its',w2,pt',_⟩:=I.tuple k1;simp only[dep] at hu';simp only[eqT,Bool.not_false,Bool.not_true];exact SeqAt.RcNeAt.list_tuple pl.isList pt' (by omega)
  | lst c2=>
   obtain⟨l',xs',ds',rfl,k1,k2,k3⟩:=h2.xu p r2;cases v2;obtain⟨its',w2,pl',_⟩:=I.list k1;simp only[dep] at hu';have e1:its.toArray.size=c.length:=by rw[List.size_toArray,<- w1.length,<- g2.length,<- g3.length]
   have e2:its'.toArray.size=c2.length:=by rw[List.size_toArray,<- w2.length,<- k2.length,<- k3.length]
   by_cases hsz:c.length=c2.length
   .have q:=SeqAt.RcNeAt.lists (A:=A) (e:=λ j=>eqT (c.getD j .zl) (c2.getD j .zl)) pl.isList pl'.isList (by rw[e1,e2];exact hsz) (by omega) λ j h1 h2=>by
     have:=p9 I p c c2 (A:=A.in1) (by show A.units+1+yC c<cLine;omega) (by show A.units+1+yC c2<cLine;omega) g3 k3 g2 k2 w1 w2 j (by simpa using h1) (by simpa using h2);simpa using this
    rw[e1] at q;simp only[eqT,sG];rw[<- hsz,Nat.min_self];simpa using q
   .have q:=SeqAt.RcNeAt.lists_lengths (A:=A) pl.isList pl'.isList (by rw[e1,e2];simpa using hsz) (by omega);simp only[eqT,sG];have z:(c.length == c2.length)=false:=by simpa using hsz
    rw[z,Bool.and_false];exact q
 | .yk,u,A,d,e,x,y,a,b,hu,hu',h1,h2,r1,r2,v1,v2=>by simp only[dep] at hu;omega
end
def gA (K:PySem.W.Frag) (neg:Bool):R2:=λ x y H Q=>∃ S d e t u,zk K H d x/\zk K H e y/\z_ K H S/\Sn S t d/\Sn S u e/\dep t<=60/\dep u<=60/\Q (.bl (cond neg (!eqT t u) (eqT t u))) H
def vW (neg:Bool):xq:=λ x y S Q=>∃ t u,Sn S t x/\Sn S u y/\dep t<=60/\dep u<=60/\Q (.bl (cond neg (!eqT t u) (eqT t u))) S
theorem vW.mo {neg:Bool}:w9 (vW neg):=λ _ _ _ _ _ hq ⟨t,u,a,b,c,d,h⟩=>⟨t,u,a,b,c,d,hq _ _ h⟩
theorem vW.fits {K:PySem.W.Frag}{neg:Bool}:xY K (vW neg) (gA K neg):=λ x y d e H S Q h1 h2 h3 ⟨t,u,a,b,c,c',h⟩=>⟨S,d,e,t,u,h1,h2,h3,a,b,c,c',h _ H (by simp only[zk]) (.refl H) h3⟩
section
variable {X:Cx}{a b:Expr}{ta tb:zH}{pos:Pos}
theorem aq (hu:X.A.units+64<cLine):y4 X (compareOp .Eq) (gA X.K false):=by
 intro pins s σ H x y v u Q I rx ry h;obtain⟨S,d,e,t,u',a1,a2,a3,a4,a5,a6,a7,q⟩:=h;exact Ua I a3 t u' (A:=X.A) (by omega) (by omega) a4 a5 a1 a2 rx ry X.prog X.w X.xe _ ⟨.bl _,H,I,rfl,q⟩
theorem TZ (hu:X.A.units+64<cLine):y4 X (compareOp .NotEq) (gA X.K true):=by
 intro pins s σ H x y v u Q I rx ry h;obtain⟨S,d,e,t,u',a1,a2,a3,a4,a5,a6,a7,q⟩:=h;exact VZ I a3 t u' (A:=X.A) (by omega) (by omega) a4 a5 a1 a2 rx ry X.prog X.w X.xe _ ⟨.bl _,H,I,rfl,q⟩
theorem aa {k:Nat}(hr:yS k X.A) (ha:PD X a ta) (hb:PD X b tb):PD X (.Compare a [.Eq] [b] pos) (yD (vW false) ta tb):=kK (aq hr.units) vW.fits vW.mo ha hb (uM _)
theorem wZ {k:Nat}(hr:yS k X.A) (ha:PD X a ta) (hb:PD X b tb):wj X (.Compare a [.Eq] [b] pos) (vZ (yD (vW false) ta tb)):=rm (aq hr.units) vW.fits vW.mo ha hb (uM _)
theorem qV {k:Nat}(hr:yS k X.A) (ha:PD X a ta) (hb:PD X b tb):wj X (.Compare a [.NotEq] [b] pos) (vZ (yD (vW true) ta tb)):=rm (TZ hr.units) vW.fits vW.mo ha hb (uM _)
def b8 (K:PySem.W.Frag) (neg:Bool):R2:=λ x y H Q=>∃ S d e u ts ds,zk K H d x/\zk K H e y/\z_ K H S/\Sn S u d/\yw e S=some ds/\zu S ts ds/\dep u<=60/\yC ts<=60/\Q (.bl (cond neg (!(ts.any λ t=>eqT t u)) (ts.any λ t=>eqT t u))) H
def qw (neg:Bool):xq:=λ x y S Q=>∃ u ts ds,Sn S u x/\yw y S=some ds/\zu S ts ds/\dep u<=60/\yC ts<=60/\Q (.bl (cond neg (!(ts.any λ t=>eqT t u)) (ts.any λ t=>eqT t u))) S
theorem qw.mo {neg:Bool}:w9 (qw neg):=λ _ _ _ _ _ hq ⟨u,ts,ds,a,b,c,d,e,h⟩=>⟨u,ts,ds,a,b,c,d,e,hq _ _ h⟩
theorem qw.fits {K:PySem.W.Frag}{neg:Bool}:xY K (qw neg) (b8 K neg):=λ x y d e H S Q h1 h2 h3 ⟨u,ts,ds,a,b,c,c',c2,h⟩=>⟨S,d,e,u,ts,ds,h1,h2,h3,a,b,c,c',c2,h _ H (by simp only[zk]) (.refl H) h3⟩
open Classical in
noncomputable def sP (its:List Value) (ts:List T) (u:T) (v:Value):Bool:=if h:∃ j,its[j]?=some v then eqT (ts.getD (Classical.choose h) .zl) u else false
theorem eN {pins:List (Addr×Obj)}{σ:St}{H:Hp}{s:Shared}{S:SS}(I:Inv X pins σ H s) (p:z_ X.K H S) {ts:List T}{ds:List D}{xs:List V}{its:List Value}(h1:zu S ts ds) (h2:zv X.K H ds xs) (h3:Vals xs its) (u:T) {j:Nat}{v:Value}(hj:its[j]?=some v):
  sP its ts u v=eqT (ts.getD j .zl) u:=by
 have h:∃ j,its[j]?=some v:=⟨j,hj⟩
 unfold sP;rw[dif_pos h];have hc:=Classical.choose_spec h;have lt:∀ i,its[i]?=some v->i<ts.length:=λ i hi=>by
  rw[h1.length,h2.length,h3.length];exact (List.getElem?_eq_some_iff.mp hi).1
 obtain⟨c1,e1,s1⟩:=h1.get (lt _ hc);obtain⟨c2,e2,s2⟩:=h1.get (lt _ hj);obtain⟨x1,f1,r1⟩:=h2.get e1;obtain⟨x2,f2,r2⟩:=h2.get e2;obtain⟨v1,g1,q1⟩:=h3.get f1;obtain⟨v2,g2,q2⟩:=h3.get f2;rw[hc] at g1;cases g1;rw[hj] at g2;cases g2;have hx:=q1.inj q2;subst hx;rw[l_ I p _ _ s1 s2 r1 r2]
theorem YR {pins:List (Addr×Obj)}{σ:St}{H:Hp}{s:Shared}{S:SS}(I:Inv X pins σ H s) (p:z_ X.K H S) {ts:List T}{ds:List D}{xs:List V}{its:List Value}(h1:zu S ts ds) (h2:zv X.K H ds xs) (h3:Vals xs its) (u:T):its.any (sP its ts u)=ts.any λ t=>eqT t u:=by
 have hl:ts.length=its.length:=by rw[h1.length,h2.length,h3.length]
 rw[Bool.eq_iff_iff,List.any_eq_true,List.any_eq_true];constructor
 .rintro⟨v,hv,h⟩;obtain⟨j,hj,rfl⟩:=List.mem_iff_getElem.mp hv;rw[eN I p h1 h2 h3 u (j:=j) (by simp[hj])] at h;have hj':j<ts.length:=by omega
  exact⟨ts[j],List.getElem_mem hj',by simpa [hj'] using h⟩
 .rintro⟨t,ht,h⟩;obtain⟨j,hj,rfl⟩:=List.mem_iff_getElem.mp ht;have hj':j<its.length:=by omega
  exact⟨its[j],List.getElem_mem hj',by rw[eN I p h1 h2 h3 u (j:=j) (by simp[hj'])];simpa [hj] using h⟩
theorem YS {pins:List (Addr×Obj)}{σ:St}{H:Hp}{s:Shared}{S:SS}(I:Inv X pins σ H s) (p:z_ X.K H S) {ts:List T}{ds:List D}{xs:List V}{its:List Value}(h1:zu S ts ds) (h2:zv X.K H ds xs) (h3:Vals xs its) {u:T}{d:D}{x:V}{v:Value}(hu:Sn S u d) (hd:zk X.K H d x) (hx:RelV x v) {A:Around}(b1:A.units+yC ts<cLine) (b2:A.units+dep u<cLine) {y:Value}(hy:y∈its):
  SeqAt.EqAt A s y v (sP its ts u y):=by
 obtain⟨j,hj,rfl⟩:=List.mem_iff_getElem.mp hy;have hjt:j<ts.length:=by rw[h1.length,h2.length,h3.length];exact hj
 rw[eN I p h1 h2 h3 u (j:=j) (by simp[hj])];obtain⟨c1,e1,s1⟩:=h1.get hjt;obtain⟨x1,f1,r1⟩:=h2.get e1;obtain⟨v1,g1,q1⟩:=h3.get f1;have:its[j]=v1:=by
  have:=List.getElem?_eq_some_iff.mp g1;exact this.2
 rw[this];have:=Yb hjt;exact ZO I p _ u (A:=A) (by omega) b2 s1 hu r1 hd q1 hx
theorem Sj (hu:X.A.units+64<cLine):y4 X (compareOp .In) (b8 X.K false):=by
 intro pins s σ H x y v w Q I rx ry h;obtain⟨S,d,e,u,ts,ds,a1,a2,a3,a4,a5,a6,a7,a8,q⟩:=h;obtain⟨l,xs,rfl,g1,g2⟩:=yw.sq a2 a3 a5;cases ry;rcases g1 with g1 | g1
 .obtain⟨its,w1,pl,_⟩:=I.list g1;refine SeqAt.in_listAt (sP its ts u) pl.isList (λ y hy=>YS I a3 a6 g2 w1 a4 a1 rx (A:=X.A.in1) (by show X.A.units+1+_<_;omega) (by show X.A.units+1+_<_;omega) (by simpa using hy)) ⟨.bl _,H,I,rfl,?_⟩;rw[show its.toArray.any (sP its ts u)=its.any (sP its ts u) by simp,YR I a3 a6 g2 w1];exact q
 .obtain⟨its,w1,pt,_⟩:=I.tuple g1;refine SeqAt.in_tupleAt (sP its ts u) pt (λ y hy=>YS I a3 a6 g2 w1 a4 a1 rx (A:=X.A.in1) (by show X.A.units+1+_<_;omega) (by show X.A.units+1+_<_;omega) (by simpa using hy)) ⟨.bl _,H,I,rfl,?_⟩;rw[show its.toArray.any (sP its ts u)=its.any (sP its ts u) by simp,YR I a3 a6 g2 w1];exact q
theorem Tt {k:Nat}(hr:yS k X.A) (ha:PD X a ta) (hb:PD X b tb) (hm:behindInMarks .In b=false:=by rfl):wj X (.Compare a [.In] [b] pos) (vZ (yD (qw false) ta tb)):=rm (Sj hr.units) qw.fits qw.mo ha hb hm
end
end L3
namespace L2
open PySem PySem.Spec PyProof.Rows
section
variable {κ:Type} [DecidableEq κ]
noncomputable def vf (kvs:List (κ × V)) (k:κ):Option V:=(kvs.find? λ kv=>decide (kv.1=k)).map (·.2)
noncomputable def putK (kvs:List (κ × V)) (k:κ) (v:V):List (κ × V):=
 if (kvs.any λ kv=>decide (kv.1=k))=true then kvs.map (λ kv=>if kv.1=k then (kv.1,v) else kv) else kvs++[(k,v)]
theorem ij {p:κ × V}{r:List (κ × V)}{k:κ}(e:p.1=k):vf (p::r) k=some p.2:=by simp[vf,List.find?_cons,e]
theorem ik {p:κ × V}{r:List (κ × V)}{k:κ}(e:¬ p.1=k):vf (p::r) k=vf r k:=by simp[vf,List.find?_cons,e]
theorem cu (k:κ):∀ kvs:List (κ × V),(kvs.any λ kv=>decide (kv.1=k))=(vf kvs k).isSome
 | []=>rfl
 | p::r=>by
  rw[List.any_cons];by_cases e:p.1=k
  .simp only[ij e,decide_eq_true e,Bool.true_or,Option.isSome_some]
  .rw[ik e,decide_eq_false e,Bool.false_or];exact cu k r
theorem aW (kvs:List (κ × V)) (k:κ) (v:V):(putK kvs k v).length<=kvs.length+1:=by
 unfold putK;split
 .rw[List.length_map];omega
 .rw[List.length_append,List.length_cons,List.length_nil];omega
theorem tm.Q7 {o:Option V}{u:Option Value}(r:tm o u):o.isSome=u.isSome:=by
 cases o with
 | none=>cases u with
  | none=>rfl
  | some _=>exact (show False from r).elim
 | some _=>cases u with
  | none=>exact (show False from r).elim
  | some _=>rfl
theorem tm.getD {o:Option V}{u:Option Value}{d:V}{d':Value}(r:tm o u) (rd:RelV d d'):RelV (o.getD d) (u.getD d'):=by
 cases o with
 | none=>cases u with
  | none=>exact rd
  | some _=>exact (show False from r).elim
 | some _=>cases u with
  | none=>exact (show False from r).elim
  | some _=>exact r
theorem KV.val {kvs:List (κ × V)}{vs:List (κ × Value)}(r:KV kvs vs) (k:κ):tm (vf kvs k) (valueAt vs k):=by
 unfold KV at r
 induction r with
 | nil=>exact True.intro
 | @cons p q ps qs h t ih=>
  obtain⟨h1,h2⟩:=h;by_cases e:p.1=k
  .have e':q.1=k:=h1.symm.trans e;have b:valueAt (q::qs) k=some q.2:=by simp[valueAt,List.find?_cons,e']
   rw[ij e,b];exact h2
  .have e':¬ q.1=k:=λ z=>e (h1.trans z);have b:valueAt (q::qs) k=valueAt qs k:=by simp[valueAt,List.find?_cons,e']
   rw[ik e,b];exact ih
theorem KV.any {kvs:List (κ × V)}{vs:List (κ × Value)}(r:KV kvs vs) (k:κ):(kvs.any λ kv=>decide (kv.1=k))=vs.any λ kv=>decide (kv.1=k):=by
 unfold KV at r
 induction r with
 | nil=>rfl
 | cons h t ih=>rw[List.any_cons,List.any_cons,ih,h.1]
theorem KV.sd {kvs:List (κ × V)}{vs:List (κ × Value)}(r:KV kvs vs) (k:κ) {y:V}{u:Value}(ry:RelV y u):
  KV (kvs.map λ kv=>if kv.1=k then (kv.1,y) else kv) (vs.map λ kv=>if kv.1=k then (kv.1,u) else kv):=by
 unfold KV at r ⊢
 induction r with
 | nil=>exact .nil
 | @cons p q ps qs h t ih=>
  rw[List.map_cons,List.map_cons];refine .cons ?_ ih;obtain⟨h1,h2⟩:=h;by_cases e:p.1=k
  .rw[if_pos e,if_pos (h1.symm.trans e)];exact⟨h1,ry⟩
  .rw[if_neg e,if_neg (λ z=>e (h1.trans z))];exact⟨h1,h2⟩
theorem KV.put {kvs:List (κ × V)}{vs:List (κ × Value)}(r:KV kvs vs) (k:κ) {y:V}{u:Value}(ry:RelV y u):KV (putK kvs k y) (stored vs k u):=by
 unfold putK stored;rw[r.any k];by_cases e:(vs.any λ kv=>decide (kv.1=k))=true
 .rw[if_pos e,if_pos e];exact r.sd k ry
 .rw[if_neg e,if_neg e];exact Paired.snoc r ⟨rfl,ry⟩
theorem KV.length {kvs:List (κ × V)}{vs:List (κ × Value)}(r:KV kvs vs):kvs.length=vs.length:=Paired.length r
end
theorem jc {P:Program}{w:World}{k:Key}{u:Value}(r:RelV (kV k) u):(vw P w).is k u=true:=by
 cases k with
 | inl i=>obtain⟨t,e⟩:=(show ∃ t,u=Value.int i t from r);subst e;exact RW P w i t
 | inr x=>obtain⟨t,e⟩:=(show ∃ t,u=Value.str x t from r);subst e;exact RV P w x t
theorem Zj {P:Program}{w:World}:∀ {ks:List Key}{us:List Value},Vals (ks.map kV) us->ItemsAre (vw P w) ks us
 | [],_,r=>by rw[List.map_nil] at r;cases r;exact .nil
 | k::ks,_,r=>by
  rw[List.map_cons] at r;cases r with
  | cons h t=>exact .cons (jc h) (Zj t)
abbrev KT (H:Hp):List (List Key×V)->List (List Key×Addr×Value)->Prop:=Paired λ p q=>p.1=q.1/\H q.2.1=some (.tup (p.1.map kV))/\RelV p.2 q.2.2
theorem KT.val {H:Hp}{kvs:List (List Key×V)}{xs:List (List Key×Addr×Value)}(r:KT H kvs xs) (k:List Key):tm (vf kvs k) ((atKey xs k).map (·.2)):=by
 induction r with
 | nil=>exact True.intro
 | @cons p q ps qs h t ih=>
  obtain⟨h1,_,h2⟩:=h;by_cases e:p.1=k
  .have e':q.1=k:=h1.symm.trans e;have b:atKey (q::qs) k=some q.2:=by simp[atKey,List.find?_cons,e']
   rw[ij e,b];exact h2
  .have e':¬ q.1=k:=λ z=>e (h1.trans z);have b:atKey (q::qs) k=atKey qs k:=by simp[atKey,List.find?_cons,e']
   rw[ik e,b];exact ih
theorem KT.sd {H:Hp}{kvs:List (List Key×V)}{xs:List (List Key×Addr×Value)}(r:KT H kvs xs) (k:List Key) {y:V}{u:Value}(ry:RelV y u):
  KT H (kvs.map λ kv=>if kv.1=k then (kv.1,y) else kv) (xs.map (putAt k u)):=by
 induction r with
 | nil=>exact .nil
 | @cons p q ps qs h t ih=>
  rw[List.map_cons,List.map_cons];refine .cons ?_ ih;obtain⟨h1,h2,h3⟩:=h;unfold putAt;by_cases e:p.1=k
  .rw[if_pos e,if_pos (h1.symm.trans e)];exact⟨h1,h2,ry⟩
  .rw[if_neg e,if_neg (λ z=>e (h1.trans z))];exact⟨h1,h2,h3⟩
theorem KT.put {H:Hp}{kvs:List (List Key×V)}{xs:List (List Key×Addr×Value)}(r:KT H kvs xs) (k:List Key) {b:Addr}{y:V}{u:Value}(hb:H b=some (.tup (k.map kV))) (ry:RelV y u):
  KT H (putK kvs k y) (storedH xs k b u):=by
 have e:(kvs.any λ kv=>decide (kv.1=k))=(atKey xs k).isSome:=by
  rw[cu,(r.val k).Q7,Option.isSome_map]
 unfold putK storedH;rw[e];by_cases q:(atKey xs k).isSome=true
 .rw[if_pos q,if_pos q];exact r.sd k ry
 .rw[if_neg q,if_neg q];exact Paired.snoc r ⟨rfl,hb,ry⟩
theorem KT.keeps {H H':Hp}{kvs:List (List Key×V)}{xs:List (List Key×Addr×Value)}(r:KT H kvs xs) (ht:∀ b ys,H b=some (.tup ys)->H' b=some (.tup ys)):KT H' kvs xs:=
 Paired.k_ r λ _ _ z=>⟨z.1,ht _ _ z.2.1,z.2.2⟩
section
variable {P:Program}{w:World}{H:Hp}{h:Heap}{a:Addr}
theorem bq {u:HO}(ok:x8 P w H h) (e:Rd H a u):xM P w H h a u:=e.ok ok
theorem oQ {kvs:List (Key×V)}(ok:x8 P w H h) (e:Rd H a (.dK kvs)):kvs.length<=sizeLine/\(a == sysModules)=false/\∃ vs,KV kvs vs/\h.DictOf (vw P w) a vs:=
 show xM P w H h a (.dK kvs) from bq ok e
theorem PR {kvs:List (Key×V)}(ok:x8 P w H h) (e:H a=some (.dK kvs)):kvs.length<=sizeLine/\(a == sysModules)=false/\∃ vs,KV kvs vs/\h.DictOf (vw P w) a vs:=oQ ok (.inl e)
theorem jb {ks:List Key}(ok:x8 P w H h) (e:H a=some (.tup (ks.map kV))):(tupleKind (vw P w)).is h ks a:=by
 obtain⟨_,its,r,o,h1,h2,n,h3⟩:=(show xM P w H h a (.tup (ks.map kV)) from ok a _ e)
 exact⟨o,its.toArray,n,h1,h2,h3,by simpa using Zj r⟩
theorem lg {kvs:List (List Key×V)}(ok:x8 P w H h) (e:Rd H a (.dT kvs)):kvs.length<=sizeLine/\(a == sysModules)=false/\
  ∃ xs,KT H kvs xs/\h.DictOfH (tupleKind (vw P w)) a xs:=by
 obtain⟨z,y,xs,r,o,es,ep,h1,h2,h3,h4,h5⟩:=(show xM P w H h a (.dT kvs) from bq ok e)
 refine⟨z,y,xs,r,o,es,ep,h1,h2,h3,h4,λ x hx=>?_,h5⟩;have all:∀ {l:List (List Key×V)}{m:List (List Key×Addr×Value)},KT H l m->∀ x∈m,(tupleKind (vw P w)).is h x.1 x.2.1:=by
  intro l m q
  induction q with
  | nil=>intro x hx;exact nomatch hx
  | @cons p q ps qs hq t ih=>
   intro x hx;rcases List.mem_cons.mp hx with e | hx
   .subst e;exact jb ok (by rw[<- hq.1];exact hq.2.1)
   .exact ih x hx
 exact all r x hx
theorem PK {kvs:List (List Key×V)}(ok:x8 P w H h) (e:H a=some (.dT kvs)):kvs.length<=sizeLine/\(a == sysModules)=false/\
  ∃ xs,KT H kvs xs/\h.DictOfH (tupleKind (vw P w)) a xs:=lg ok (.inl e)
end
def rR (H:Hp) (a:Addr) (y:V) (r:Option V):Prop:=
 (∃ kvs k,Rd H a (.dK kvs)/\y=kV k/\r=vf kvs k)\/∃ kvs k b,Rd H a (.dT kvs)/\y=.ref b/\H b=some (.tup (k.map kV))/\r=vf kvs k
def lU (H:Hp) (a:Addr) (y v:V) (H':Hp):Prop:=
 (∃ kvs k,H a=some (.dK kvs)/\y=kV k/\kvs.length<sizeLine/\H'=upd H a (.dK (putK kvs k v)))\/
 ∃ kvs k b,H a=some (.dT kvs)/\y=.ref b/\H b=some (.tup (k.map kV))/\kvs.length<sizeLine/\H'=upd H a (.dT (putK kvs k v))
theorem rR.k {H:Hp}{a:Addr}{kvs:List (Key×V)}{k:Key}(e:H a=some (.dK kvs)):rR H a (kV k) (vf kvs k):=.inl ⟨kvs,k,.inl e,rfl,rfl⟩
theorem lU.k {H:Hp}{a:Addr}{kvs:List (Key×V)}{k:Key}{v:V}(e:H a=some (.dK kvs)) (hl:kvs.length<sizeLine):lU H a (kV k) v (upd H a (.dK (putK kvs k v))):=.inl ⟨kvs,k,e,rfl,hl,rfl⟩
section
variable {X:Cx}{pins:List (Addr×Obj)}{σ:St}{H:Hp}{s:Shared}{a:Addr}{y v:V}{u r:Value}{o:Option V}{A:Around}{E:Value->Shared->Prop}
theorem Inv.big (I:Inv X pins σ H s):sysModules<s.heap.objs.size:=by
 have h:mainGlobals<s.heap.objs.size:=(I.mod.glob.keeps I.bk).lt;exact Nat.lt_trans (by decide) h
theorem Oe {Q:Value->Shared->Prop}(hu:A.units+1<cLine) (I:Inv X pins σ H s) (g:rR H a y (some v)) (ry:RelV y u) (h:∀ w' s',Inv X pins σ H s'->RelV v w'->Q w' s'):
  wpAny (model X.prog X.w) A (getItem (.ref a) u) Q E s:=by
 rcases g with ⟨kvs,k,e,ey,l⟩ | ⟨kvs,k,b,e,ey,eb,l⟩
 .subst ey;obtain⟨z,hd,vs,rel,dd⟩:=oQ I.zJ e;obtain⟨w',hw,rw'⟩:=tm.some_of (v:=v) (o:=valueAt vs k) (by rw[l];exact rel.val k);exact wpAny_getItem_of (jc ry) dd.mapOf hw (h w' _ (I.tok _) rw')
 .subst ey;cases (show u=Value.ref b from ry);obtain⟨z,hd,xs,rel,dd⟩:=lg I.zJ e;obtain⟨w',hw,rw'⟩:=tm.some_of (v:=v) (o:=(atKey xs k).map (·.2)) (by rw[l];exact rel.val k);obtain⟨p,hp,QL⟩:=zOm hw;refine wpAny_getItem_heap (tupleKind_room_in1 hu) (jb I.zJ eb) dd hp ?_;rw[QL];exact h w' _ (I.tok _) rw'
theorem Yh {h':Heap}{t':Nat}{ob:HO}(I:Inv X pins σ H s) (mu:lG (H a)) (hs:Heap.SameBut a s.heap h') (he:∃ q,h'.get? a=some q) (new:xM X.prog X.w (upd H a ob) h' a ob):
  Inv X pins σ (upd H a ob) { s with heap:=h',toks:=t' }:=
 I.write (x:=a) (e:=a) mu (.inl rfl) (λ b q hb z=>(hs.2 b hb).trans z) he new
theorem PU {P:Program}{w:World}{H':Hp}{h':Heap}{kvs:List (Key×V)}{vs:List (Key×Value)}(z:kvs.length<=sizeLine) (hd:(a == sysModules)=false) (rel:KV kvs vs) (dd:h'.DictOf (vw P w) a vs):
  xM P w H' h' a (.dK kvs):=⟨z,hd,vs,rel,dd⟩
theorem Oc {H':Hp}{Q:Unit->Shared->Prop}(hu:A.units+1<cLine) (I:Inv X pins σ H s) (g:lU H a y v H') (ry:RelV y u) (rv:RelV v r) (h:∀ s',Inv X pins σ H' s'->Q () s'):
  wpAny (model X.prog X.w) A (setItem (.ref a) u r) Q E s:=by
 rcases g with ⟨kvs,k,e,ey,l,eH⟩ | ⟨kvs,k,b,e,ey,eb,l,eH⟩
 .subst ey eH;obtain⟨z,hd,vs,rel,dd⟩:=PR I.zJ e;have hz:vs.length<=sizeLine:=by rw[<- rel.length];exact z
  have hl:(putK kvs k v).length<=sizeLine:=by have:=aW kvs k v;omega
  refine wpAny_setItem_pairs (hsz:=hz) (jc ry) dd λ h' dd' hs=>h _ ?_;have he:∃ q,h'.get? a=some q:=let ⟨q,_,_,hq,_⟩:=dd';⟨q,hq⟩
  exact Yh I (by rw[e];exact True.intro) hs he (PU hl hd (rel.put k rv) dd')
 .subst ey eH;cases (show u=Value.ref b from ry);obtain⟨z,hd,xs,rel,dd⟩:=PK I.zJ e;have hz:xs.length<=sizeLine:=by rw[<- Paired.length rel];exact z
  have hl:(putK kvs k v).length<=sizeLine:=by have:=aW kvs k v;omega
  refine wpAny_setItem_heap (hsz:=hz) (tupleKind_room_in1 hu) (jb I.zJ eb) dd λ h' dd' hs=>h _ ?_;obtain⟨q,es,ep,hq,h2,h3,h4,_,h5⟩:=dd';refine Yh I (by rw[e];exact True.intro) hs ⟨q,hq⟩ ⟨hl,hd,_,(rel.put k eb rv).keeps λ c ys ec=>?_,q,es,ep,hq,h2,h3,h4,h5⟩;rw[xg (mF ec e (λ z=>nomatch z))];exact ec
end
section
variable {X:Cx}{pins:List (Addr×Obj)}{σ:St}{H:Hp}{s:Shared}{a:Addr}{kvs:List (Key×V)}{k:Key}{u:Value}{A:Around}{E:Value->Shared->Prop}
theorem Od {Q:Value->Shared->Prop}(I:Inv X pins σ H s) (e:Rd H a (.dK kvs)) (h:∀ t s',Inv X pins σ H s'->Q (.int kvs.length t) s'):wpAny (model X.prog X.w) A (call (.builtin "len") [.ref a]) Q E s:=by
 obtain⟨z,hd,vs,rel,dd⟩:=oQ I.zJ e;refine call_len_dict hd dd (by rw[<- rel.length];rw[sizeLine_eq] at z;omega) ?_;rw[<- rel.length];exact h _ _ (I.tok _)
end
def eT (i:Expr):Prop:=∀ ov iv,subscripted i false ov iv=operate [ov,iv] (getItem ov iv)
theorem Vn {prog:Program}{w:World}{A:Around}{E:Value->Shared->Prop}{s:Shared}{env:Env}{value slice:Expr}{pos:Pos}{T id:String}{Q:Value->Shared->Prop}
  (hl:typeLookup (.type T) "__getitem__"=pure (some (.builtin id))) (hs:eT slice)
  (h:wpAny (model prog w) A (eval value env) (λ o s₁=>wpAny (model prog w) A (eval slice env) (λ i s₂=>s₂.TypeIs o T/\wpAny (model prog w) A (getItem o i) Q E s₂) E s₁) E s):
  wpAny (model prog w) A (eval (.Subscript value slice pos) env) Q E s:=by
 refine Subscript_ (wpAny_mono h (λ o s₁ h₁=>wpAny_mono h₁ (λ i s₂ h₂=>?_) λ _ _ x=>x) λ _ _ x=>x);obtain⟨hT,h₂⟩:=h₂;unfold subscriptTail;refine zWb ?_;rw[getitemInPython_of_ne hT.not_modules];refine zWb (wpAny_specialOf hT hl ?_);have fin:wpAny (model prog w) A (subscripted slice false o i) (λ r s₃=>wpAny (model prog w) A (letTemporaryGo value o r >>= λ _=>pure r) Q E s₃) E s₂:=by
  rw[hs o i];exact wpAny_operating (wpAny_mono h₂ (λ r s₃ h₃=>zWb (wpAny_letTemporaryGo (wpAny_pure h₃))) λ _ _ x=>x)
 first
  | exact wpAny_pure (zWb fin)
  | exact zWb (wpAny_pure (zWb fin))
  | exact zWb fin
theorem PX {X:Cx}{pins:List (Addr×Obj)}{σ:St}{H:Hp}{s:Shared}{a:Addr}{y:V}{o:Option V}(I:Inv X pins σ H s) (g:rR H a y o):s.TypeIs (.ref a) "dict":=by
 rcases g with ⟨kvs,k,e,_,_⟩ | ⟨kvs,k,b,e,_,_,_⟩
 .obtain⟨_,_,vs,_,dd⟩:=oQ I.zJ e;exact dd.typeIs
 .obtain⟨_,_,xs,_,dd⟩:=lg I.zJ e;exact dd.typeIs
def Vk (td ty:TE):TE:=fun σ H Q=>td σ H λ x H1=>ty σ H1 λ y H2=>∃ a v,x=.ref a/\rR H2 a y (some v)/\Q v H2
def VQ (td ty tv:TE):TS:=λ D σ H=>tv σ H λ v H1=>td σ H1 λ x H2=>ty σ H2 λ y H3=>∃ a H4,x=.ref a/\lU H3 a y v H4/\D.nx σ H4
section
variable {X:Cx}{o i e value:Expr}{pos pos' tpos:Pos}{td ty tv:TE}
theorem Tg (hu:X.A.units+1<cLine) (ho:PE X o td) (hi:PE X i ty) (hs:eT i):PE X (.Subscript o i pos) (Vk td ty):=by
 intro pins s σ H Q I h;refine Vn PySem.F.slot_dict_getitem.lookup hs (zQ (ho pins s σ H _ I h) λ u s1 ⟨x,H1,I1,rx,q1⟩=>zQ (hi pins s1 σ H1 _ I1 q1) λ iv s2 ⟨y,H2,I2,ry,a,v,ex,g,q2⟩=>?_);subst ex;obtain rfl:u=Value.ref a:=rx;exact⟨PX I2 g,Oe hu I2 g ry λ w' s3 I3 rw'=>⟨v,H2,I3,rw',q2⟩⟩
theorem U4 (hu:X.A.units+1<cLine) (ho:PE X o td) (hi:PE X i ty) (hv:PE X value tv) (hs:swapsWith value (some (.Subscript o i pos')) pos.line X.env=pure false):
  PS X (.Assign [.Subscript o i pos'] value pos) (VQ td ty tv):=by
 intro pins s σ H D I h;refine wpAny_Assign_Subscript (zQ (hv pins s σ H _ I h) λ r s1 ⟨v,H1,I1,rv,q1⟩=>zQ (ho pins s1 σ H1 _ I1 q1) λ u s2 ⟨x,H2,I2,rx,q2⟩=>zQ (hi pins s2 σ H2 _ I2 q2) λ iv s3 ⟨y,H3,I3,ry,a,H4,ex,g,q3⟩=>?_) hs;subst ex;obtain rfl:u=Value.ref a:=rx;exact Oc hu I3 g ry rv λ s4 I4=>⟨σ,H4,I4,q3⟩
end
theorem PV {P:Program}{w:World}{H:Hp}(h:Heap) (hb:sysModules<h.objs.size):xM P w H (h.push { cls:=.type "dict",data:=.dict #[] }) h.objs.size (.dK []):=
 ⟨Nat.zero_le _,beq_eq_false_iff_ne.mpr (Ne.symm (Nat.ne_of_lt hb)),[],.nil,Heap.DictOf.new h⟩
def Vi:TE:=λ _ H Q=>∀ p,H p=none->Q (.ref p) (upd H p (.dK []))
section
variable {X:Cx}{pos:Pos}
theorem Te:PE X (.Dict [] [] pos) Vi:=λ pins s σ H Q I h=>
 wpAny_Dict_empty ⟨.ref s.heap.objs.size,_,I.laid (a:=s.heap.objs.size) (o:=.dK []) (t':=s.toks) (λ _ _ q=>zHp _ q) (Nat.le_refl _) (PV s.heap I.big),rfl,h _ (I.zJ.fresh (Nat.le_refl _))⟩
end
structure M2 (X:Cx) (o:Expr) (m:Str) (apos:Pos) (e f:Expr) (cpos:Pos):Prop where
 base:attributeBase o m X.env (eval o X.env)=eval o X.env
 mV:((backTo cpos (starEach [e,f] X.env)).all (λ x=>!x.1)&&(backToKw cpos (keywordEach [] X.env)).all (λ x=>x.1.isSome)
  && decide (([e,f]:List Expr).length+([]:List Keyword).length+(if ([]:List Keyword).isEmpty then 0 else 1)<30))=true
 line:(apos.endLine == cpos.line)=true
 trees:backTo cpos (starEach [e,f] X.env)=[(false,eval e X.env),(false,eval f X.env)]
def Xe (H:Hp) (a:Addr):Prop:=(∃ kvs,Rd H a (.dK kvs))\/∃ kvs,Rd H a (.dT kvs)
theorem QA {X:Cx}{pins:List (Addr×Obj)}{σ:St}{H:Hp}{s:Shared}{a:Addr}(I:Inv X pins σ H s) (d:Xe H a):
  s.TypeIs (.ref a) "dict"/\(∀ b,Value.ref a=.ref b->∃ ob,s.heap.get? b=some ob/\ob.dict=none)/\(a == sysModules)=false:=by
 rcases d with ⟨kvs,e⟩ | ⟨kvs,e⟩
 .obtain⟨_,hd,vs,_,dd⟩:=oQ I.zJ e;refine⟨dd.typeIs,λ b q=>?_,hd⟩;cases q;obtain⟨ob,_,_,h1,h2,_⟩:=dd;exact⟨ob,h1,h2.2.1⟩
 .obtain⟨_,hd,xs,_,dd⟩:=lg I.zJ e;refine⟨dd.typeIs,λ b q=>?_,hd⟩;cases q;obtain⟨ob,_,_,h1,h2,_⟩:=dd;exact⟨ob,h1,h2.2.1⟩
section
variable {X:Cx}{pins:List (Addr×Obj)}{σ:St}{H:Hp}{s:Shared}{a:Addr}{y d:V}{u r:Value}{o:Option V}{A:Around}{E:Value->Shared->Prop}
theorem Og {Q:Value->Shared->Prop}(hu:A.units+1<cLine) (I:Inv X pins σ H s) (g:rR H a y o) (ry:RelV y u) (rd:RelV d r) (h:∀ w' s',Inv X pins σ H s'->RelV (o.getD d) w'->Q w' s'):
  wpAny (model X.prog X.w) A (call (.builtin "dict.get") [.ref a,u,r]) Q E s:=by
 rcases g with ⟨kvs,k,e,ey,l⟩ | ⟨kvs,k,b,e,ey,eb,l⟩
 .subst ey;obtain⟨z,hd,vs,rel,dd⟩:=oQ I.zJ e;refine call_meetsIn PySem.F.slot_dict_get dd.typeIs PySem.F.entry_dict_get (PySem.F.args_dict_get_3 _ _ _) (meets_dict_get_default (vw X.prog X.w) a (jc ry) hd r) ⟨_,dd.mapOf,h _ _ (I.tok _) ?_⟩;rw[l];exact (rel.val k).getD rd
 .subst ey;cases (show u=Value.ref b from ry);obtain⟨z,hd,xs,rel,dd⟩:=lg I.zJ e;refine call_meetsIn PySem.F.slot_dict_get dd.typeIs PySem.F.entry_dict_get (PySem.F.args_dict_get_3 _ _ _) (meetsH_dict_get_default (tupleKind (vw X.prog X.w)) a b hd r) ⟨tupleKind_room_in1 hu,k,xs,jb I.zJ eb,dd,h _ _ (I.tok _) ?_⟩;rw[l];exact (rel.val k).getD rd
end
def Vj (td ty tx:TE):TE:=fun σ H Q=>td σ H λ x H1=>∃ a,x=.ref a/\Xe H1 a/\ty σ H1 λ y H2=>tx σ H2 λ z H3=>∃ o,rR H3 a y o/\Q (o.getD z) H3
section
variable {X:Cx}{o e f:Expr}{apos cpos:Pos}{td ty tx:TE}
theorem Tf (hu:X.A.units+1<cLine) (ho:PE X o td) (he:PE X e ty) (hf:PE X f tx) (m:M2 X o "get" apos e f cpos):PE X (.Call (.Attribute o "get" apos) [e,f] [] cpos) (Vj td ty tx):=by
 intro pins s σ H Q I h;refine wpAny_Call_method m.base m.mV m.line PySem.F.plainAttrs_dict PySem.F.slot_dict_get PySem.F.type_dict_get (zQ (ho pins s σ H _ I h) λ u s1 ⟨x,H1,I1,rx,a,ex,d,q1⟩=>?_);subst ex;obtain rfl:u=Value.ref a:=rx;obtain⟨t1,t2,_⟩:=QA I1 d;refine⟨t1,t2,?_⟩;rw[m.trees];refine Calls.callWith_builtin rfl (Calls.evalArgs_plain (Calls.spliced_cons (zQ (he pins s1 σ H1 _ I1 q1) λ iv s2 ⟨y,H2,I2,ry,q2⟩=>
  Calls.spliced_cons (zQ (hf pins s2 σ H2 _ I2 q2) λ fv s3 ⟨z,H3,I3,rz,ov,g,q3⟩=>Calls.spliced_nil ?_))))
 exact Og hu I3 g ry rz λ w' s4 I4 rw'=>⟨_,H3,I4,rw',q3⟩
end
section
variable {X:Cx}{pins:List (Addr×Obj)}{σ:St}{H:Hp}{s:Shared}{a:Addr}{kvs:List (Key×V)}{A:Around}{E:Value->Shared->Prop}
end
section
variable {X:Cx}{pins:List (Addr×Obj)}{σ:St}{H:Hp}{s:Shared}{a:Addr}{y:V}{u:Value}{A:Around}{E:Value->Shared->Prop}
end
end L2
namespace L3
open PySem PySem.Spec L2
open PyProof.Rows hiding St
noncomputable def uF (kvs:List (Key×D)) (k:Key):Option D:=(kvs.find? λ kv=>decide (kv.1=k)).map (·.2)
noncomputable def putD (kvs:List (Key×D)) (k:Key) (v:D):List (Key×D):=
 if (kvs.any λ kv=>decide (kv.1=k))=true then kvs.map (λ kv=>if kv.1=k then (kv.1,v) else kv) else kvs++[(k,v)]
section
variable {K:PySem.W.Frag}{H:Hp}
theorem xF.val:∀ {kvs:List (Key×D)}{vs:List (Key×V)},xF K H kvs vs->∀ k,(uF kvs k=none/\vf vs k=none)\/∃ d v,uF kvs k=some d/\vf vs k=some v/\zk K H d v
 | _,_,.nil,k=>.inl ⟨rfl,rfl⟩
 | (a,d)::kvs,(b,v)::vs,.cons ⟨e,r⟩ t,k=>by
  have e':a=b:=e;subst e';by_cases h:a=k
  .subst h;exact .inr ⟨d,v,by simp[uF],by simp[vf],r⟩
  .rcases xF.val t k with ⟨h1,h2⟩ | ⟨d',v',h1,h2,h3⟩
   .exact .inl ⟨by simpa [uF,h] using h1,by simpa [vf,h] using h2⟩
   .exact .inr ⟨d',v',by simpa [uF,h] using h1,by simpa [vf,h] using h2,h3⟩
theorem xF.any {kvs:List (Key×D)}{vs:List (Key×V)}(h:xF K H kvs vs) (k:Key):(kvs.any λ kv=>decide (kv.1=k))=vs.any λ kv=>decide (kv.1=k):=by
 induction h with
 | nil=>rfl
 | cons r _ ih=>rw[List.any_cons,List.any_cons,ih,r.1]
theorem xF.len {kvs:List (Key×D)}{vs:List (Key×V)}(h:xF K H kvs vs):kvs.length=vs.length:=Paired.length h
theorem xF.sd {k:Key}{d:D}{v:V}(r:zk K H d v):∀ {kvs:List (Key×D)}{vs:List (Key×V)},xF K H kvs vs->xF K H (kvs.map λ kv=>if kv.1=k then (kv.1,d) else kv) (vs.map λ kv=>if kv.1=k then (kv.1,v) else kv)
 | _,_,.nil=>.nil
 | (a1,a2)::_,(b1,b2)::_,.cons ⟨e,q⟩ t=>by
  have e':a1=b1:=e;subst e';refine .cons ?_ (xF.sd r t);by_cases hk:a1=k
  .simp[hk,r]
  .simpa [hk] using q
theorem xF.snoc {k:Key}{d:D}{v:V}(r:zk K H d v):∀ {kvs:List (Key×D)}{vs:List (Key×V)},xF K H kvs vs->xF K H (kvs++[(k,d)]) (vs++[(k,v)])
 | _,_,.nil=>.cons ⟨rfl,r⟩ .nil
 | _,_,.cons q t=>.cons q (xF.snoc r t)
theorem xF.put {kvs:List (Key×D)}{vs:List (Key×V)}(h:xF K H kvs vs) (k:Key) {d:D}{v:V}(r:zk K H d v):xF K H (putD kvs k d) (putK vs k v):=by
 unfold putD putK;rw[h.any k];split
 .exact xF.sd r h
 .exact xF.snoc r h
end
section
variable {X:Cx}{K:PySem.W.Frag}{o i e f v:Expr}{td ty tx tv:zH}{pos pos' apos cpos:Pos}
def Yq:zH:=λ _ S Q=>∀ p,S p=none->Q (.ref p) (ups S p (.yy []))
theorem TH:PD X (.Dict [] [] pos) Yq:=by
 refine⟨λ _ _ _ _ hq z p hp=>hq _ _ (z p hp),PE.imp Te fun σ H Q hu p hp=>?_⟩;obtain⟨δ,S,r1,r2,z⟩:=hu;exact z p (r2.none hp) _ _ (by simp only[zk]) (.new hp _) (r2.ups (.new hp _) ⟨[],xa,.nil⟩)
def Yt (td ty:zH):zH:=fun δ S Q=>td δ S λ x S1=>ty δ S1 λ y S2=>∃ p kvs k d,x=.ref p/\y=.int k/\S2 p=some (.yy kvs)/\uF kvs (.inl k)=some d/\Q d S2
theorem ae {k:Nat}(hr:yS k X.A) (ho:PD X o td) (hi:PD X i ty) (hs:eT i:=by exact λ _ _=>rfl):PD X (.Subscript o i pos) (Yt td ty):=by
 refine⟨fun δ S Q Q' hq z=>ho.mo δ S _ _ (λ x S1 z=>hi.mo δ S1 _ _ (λ y S2 ⟨p,kvs,k,d,a,b,c,e,h⟩=>⟨p,kvs,k,d,a,b,c,e,hq _ _ h⟩) z) z,PE.imp (Tg (f9 hr) ho.pe hi.pe hs) fun σ H Q hu=>?_⟩;obtain⟨δ,S,r1,r2,z⟩:=hu;refine yd.go ho.mo r1 r2 z λ x S1 w H1 h1 q1 e1 p1=>?_;refine yd.go hi.mo (r1.ext e1) p1 h1 λ y S2 w2 H2 h2 q2 e2 p2=>?_;obtain⟨p,kvs,k,d,rfl,rfl,c1,c2,h⟩:=h2;simp only[zk] at q1 q2;subst q1 q2;obtain⟨vs,g1,g2⟩:=p2 _ _ c1;rcases xF.val g2 (.inl k) with ⟨n1,_⟩ | ⟨d',v',n1,n2,n3⟩
 .rw[c2] at n1;cases n1
 .rw[c2] at n1;cases n1;exact⟨p,v',rfl,n2▸rR.k (k:=Sum.inl k) g1,h v' H2 n3 (e1.trans e2) p2⟩
def Ys (td ty tx:zH):zH:=fun δ S Q=>td δ S λ x S1=>∃ p,x=.ref p/\(∃ kvs,S1 p=some (.yy kvs))/\ty δ S1 λ y S2=>tx δ S2 λ z S3=>∃ k kvs,y=.int k/\S3 p=some (.yy kvs)/\Q ((uF kvs (.inl k)).getD z) S3
theorem TJ {k:Nat}(hr:yS k X.A) (ho:PD X o td) (he:PD X e ty) (hf:PD X f tx) (m:M2 X o "get" apos e f cpos:=by exact⟨rfl,rfl,rfl,rfl⟩):PD X (.Call (.Attribute o "get" apos) [e,f] [] cpos) (Ys td ty tx):=by
 refine⟨fun δ S Q Q' hq z=>ho.mo δ S _ _ (λ x S1 ⟨p,a,b,z⟩=>⟨p,a,b,he.mo δ S1 _ _ (λ y S2 z=>hf.mo δ S2 _ _ (λ w S3 ⟨k,kvs,a,b,h⟩=>⟨k,kvs,a,b,hq _ _ h⟩) z) z⟩) z,PE.imp (Tf (f9 hr) ho.pe he.pe hf.pe m) fun σ H Q hu=>?_⟩;obtain⟨δ,S,r1,r2,z⟩:=hu;refine yd.go ho.mo r1 r2 z λ x S1 w H1 h1 q1 e1 p1=>?_;obtain⟨p,rfl,⟨kvs0,c0⟩,h1⟩:=h1;simp only[zk] at q1;subst q1;obtain⟨vs0,g0,_⟩:=p1 _ _ c0;refine⟨p,rfl,.inl ⟨vs0,.inl g0⟩,?_⟩;refine yd.go he.mo (r1.ext e1) p1 h1 λ y S2 w2 H2 h2 q2 e2 p2=>?_;refine yd.go hf.mo ((r1.ext e1).ext e2) p2 h2 λ y3 S3 w3 H3 h3 q3 e3 p3=>?_;obtain⟨k,kvs,rfl,c1,h⟩:=h3;simp only[zk] at q2;subst q2;obtain⟨vs,g1,g2⟩:=p3 _ _ c1;refine⟨vf vs (.inl k),rR.k (k:=Sum.inl k) g1,?_⟩;rcases xF.val g2 (.inl k) with ⟨n1,n2⟩ | ⟨d',v',n1,n2,n3⟩
 .rw[n1] at h;rw[n2];exact h _ H3 q3 ((e1.trans e2).trans e3) p3
 .rw[n1] at h;rw[n2];exact h _ H3 n3 ((e1.trans e2).trans e3) p3
def Yr (td ty tv:zH):xx:=λ E δ S=>tv δ S λ v S1=>td δ S1 λ x S2=>ty δ S2 λ y S3=>∃ p kvs k,x=.ref p/\y=.int k/\S3 p=some (.yy kvs)/\kvs.length<sizeLine/\E.nx δ (ups S3 p (.yy (putD kvs (.inl k) v)))
theorem Ext.dK {H:Hp}{p:Addr}{kvs:List (Key×V)}(h:H p=some (.dK kvs)) (o:HO):Ext H (upd H p o):=
 ⟨λ b ys q=>by rw[xg (mF q h (by intro z;cases z))];exact q,λ b ob u q=>by rw[xg (mF q h (by intro z;cases z))];exact q⟩
theorem Tw {k:Nat}(hr:yS k X.A) (ho:PD X o td) (hi:PD X i ty) (hv:PD X v tv) (hs:swapsWith v (some (.Subscript o i pos')) pos.line X.env=pure false:=by rfl):ud X (.Assign [.Subscript o i pos'] v pos) (Yr td ty tv):=by
 refine⟨λ E E' δ S hE z=>hv.mo δ S _ _ (λ w S1 z=>ho.mo δ S1 _ _ (λ x S2 z=>hi.mo δ S2 _ _ (λ y S3 ⟨p,kvs,k,a,b,c,d,h⟩=>⟨p,kvs,k,a,b,c,d,hE.nx _ _ h⟩) z) z) z,PS.imp (U4 (f9 hr) ho.pe hi.pe hv.pe hs) λ D σ H hu=>?_⟩;obtain⟨δ,S,r1,r2,z⟩:=hu;refine yd.go hv.mo r1 r2 z λ w S1 w1 H1 h1 q1 e1 p1=>?_;refine yd.go ho.mo (r1.ext e1) p1 h1 λ x S2 w2 H2 h2 q2 e2 p2=>?_;refine yd.go hi.mo ((r1.ext e1).ext e2) p2 h2 λ y S3 w3 H3 h3 q3 e3 p3=>?_;obtain⟨p,kvs,k,rfl,rfl,c1,c2,h⟩:=h3;simp only[zk] at q2 q3;subst q2 q3;obtain⟨vs,g1,g2⟩:=p3 _ _ c1;have e4:Ext H3 (upd H3 p (.dK (putK vs (.inl k) w1))):=.dK g1 _;refine⟨p,_,rfl,lU.k (k:=Sum.inl k) g1 (by rw[<- g2.len];exact c2),?_⟩;exact h σ _ ((((r1.ext e1).ext e2).ext e3).ext e4) (((e1.trans e2).trans e3).trans e4) (p3.ups e4 ⟨_,xa,(xF.put g2 _ (zk.ext (e2.trans e3) w q1)).ext e4⟩)
theorem OO:y_ X (.builtin "len") (λ xs H Q=>∃ p kvs,xs=[.ref p]/\H p=some (.dK kvs)/\Q (.int kvs.length) H):=by
 intro pins s σ H xs us Q I r h;obtain⟨p,kvs,rfl,e,q⟩:=h;obtain⟨u,rfl,ru⟩:=vals1 r;cases ru;exact Od I (.inl e) λ t s' I'=>⟨.int _,H,I',⟨_,rfl⟩,q⟩
def ZL:w6:=λ ds S Q=>∃ p kvs,ds=[.ref p]/\S p=some (.yy kvs)/\Q (.int kvs.length) S
theorem TF {es:List Expr}{tA:yK}{p:Pos}(hm:X.mg "len"=none) (ha:wH X (e::es) tA) (hg:Gl X "len":=by rfl) (he:starEach (e::es) X.env=(false,eval e X.env)::starEach es X.env:=by rfl) (hpl:(backTo pos (starEach es X.env)).any (·.1)=false:=by rfl):PD X (.Call (.Name "len" p) (e::es) [] pos) (wy ZL tA):=
 sg (rj OO hg hm PySem.boot_len ha.pa (by decide) (by decide) he hpl) (λ _ _ _ _ hq ⟨p,kvs,a,b,h⟩=>⟨p,kvs,a,b,hq _ _ h⟩) (λ xs ds H S Q h0 h2 ⟨p,kvs,a,b,h⟩=>by
  subst a;obtain⟨x,rfl,h1⟩:=h0.one;simp only[zk] at h1;subst h1;obtain⟨vs,g1,g2⟩:=h2 _ _ b;refine⟨p,vs,rfl,g1,?_⟩;rw[<- g2.len];exact h _ H (by simp only[zk]) (.refl H) h2) ha.mo
end
end L3
namespace L3
open PySem L2
section
variable {S S':SS}
mutual
theorem Sn.sx (h:Sx S S'):∀ (t:T) {d:D},Sn S t d->Sn S' t d
 | .zl,d,q=>by simpa only [Sn] using q
 | .bl b,d,q=>by simpa only [Sn] using q
 | .int i,d,q=>by simpa only [Sn] using q
 | .str x,d,q=>by simpa only [Sn] using q
 | .tup ts,d,q=>by
  simp only[Sn] at q ⊢;obtain⟨ds,q1,q2⟩:=q;exact⟨ds,q1,zu.sx h ts q2⟩
 | .lst ts,d,q=>by
  simp only[Sn] at q ⊢;obtain⟨ds,q1,q2⟩:=q;refine⟨ds,?_,zu.sx h ts q2⟩;rcases q1 with q1 | ⟨a,q1,q3⟩
  .exact .inl q1
  .exact .inr ⟨a,q1,h _ _ q3⟩
 | .yk,d,q=>by
  simp only[Sn] at q ⊢;obtain⟨a,kvs,q1,q2⟩:=q;exact⟨a,kvs,q1,h _ _ q2⟩
theorem zu.sx (h:Sx S S'):∀ (ts:List T) {ds:List D},zu S ts ds->zu S' ts ds
 | [],ds,q=>by simpa only [zu] using q
 | t::ts,ds,q=>by
  simp only[zu] at q ⊢;obtain⟨c,cs,q1,q2,q3⟩:=q;exact⟨c,cs,q1,Sn.sx h t q2,zu.sx h ts q3⟩
end
theorem zu.nil:zu S [] []:=by simp only[zu]
theorem zu.cons {t:T}{ts:List T}{d:D}{ds:List D}(h:Sn S t d) (h':zu S ts ds):zu S (t::ts) (d::ds):=by
 simp only[zu];exact⟨d,ds,rfl,h,h'⟩
theorem zu.append:∀ {ts us:List T}{ds es:List D},zu S ts ds->zu S us es->zu S (ts++us) (ds++es)
 | [],us,ds,es,h,h'=>by simp only[zu] at h;subst h;simpa using h'
 | t::ts,us,ds,es,h,h'=>by
  simp only[zu] at h;obtain⟨c,cs,rfl,h1,h2⟩:=h;exact zu.cons h1 (zu.append h2 h')
theorem zu.fH:∀ {ts:List T}{ds:List D}{i:Nat}{t:T},zu S ts ds->ts[i]?=some t->∃ d,ds[i]?=some d/\Sn S t d
 | [],_,i,t,_,e=>by simp at e
 | u::ts,ds,i,t,h,e=>by
  simp only[zu] at h;obtain⟨c,cs,rfl,h1,h2⟩:=h;cases i with
  | zero=>simp at e;subst e;exact⟨c,rfl,h1⟩
  | succ i=>
   obtain⟨y,e1,e2⟩:=zu.fH (i:=i) h2 (by simpa using e);exact⟨y,by simpa using e1,e2⟩
theorem zu.fL:∀ {ts:List T}{ds:List D}{i:Nat}{d:D},zu S ts ds->ds[i]?=some d->∃ t,ts[i]?=some t/\Sn S t d
 | [],ds,i,t,h,e=>by simp only[zu] at h;subst h;simp at e
 | u::ts,ds,i,t,h,e=>by
  simp only[zu] at h;obtain⟨c,cs,rfl,h1,h2⟩:=h;cases i with
  | zero=>simp at e;subst e;exact⟨u,rfl,h1⟩
  | succ i=>
   obtain⟨y,e1,e2⟩:=zu.fL (i:=i) h2 (by simpa using e);exact⟨y,by simpa using e1,e2⟩
theorem zu.len {ts:List T}{ds:List D}(h:zu S ts ds):ds.length=ts.length:=(L3.zu.length h).symm
theorem zu.at {ts:List T}{ds:List D}{i:Int}{t:T}(h:zu S ts ds) (e:L2.yh ts i=some t):∃ d,L2.yh ds i=some d/\Sn S t d:=by
 unfold L2.yh at e ⊢;rw[h.len];cases q:L2.wL ts.length i with
 | none=>rw[q] at e;cases e
 | some j=>
  rw[q] at e;exact h.fH e
theorem zu.cV:∀ {ts:List T}{ds:List D}{t:T}{d:D}(i:Nat),zu S ts ds->Sn S t d->zu S (ts.set i t) (ds.set i d)
 | [],ds,t,d,i,h,_=>by simp only[zu] at h;subst h;simpa using zu.nil
 | u::ts,ds,t,d,0,h,hd=>by
  simp only[zu] at h;obtain⟨c,cs,rfl,h1,h2⟩:=h;exact zu.cons hd h2
 | u::ts,ds,t,d,i+1,h,hd=>by
  simp only[zu] at h;obtain⟨c,cs,rfl,h1,h2⟩:=h;exact zu.cons h1 (zu.cV i h2 hd)
theorem zu.take':∀ {ts:List T}{ds:List D}(n:Nat),zu S ts ds->zu S (ts.take n) (ds.take n)
 | ts,ds,0,h=>by simpa using zu.nil
 | [],ds,n+1,h=>by simp only[zu] at h;subst h;simpa using zu.nil
 | t::ts,ds,n+1,h=>by
  simp only[zu] at h;obtain⟨c,cs,rfl,h1,h2⟩:=h;exact zu.cons h1 (zu.take' n h2)
theorem zu.drop':∀ {ts:List T}{ds:List D}(n:Nat),zu S ts ds->zu S (ts.drop n) (ds.drop n)
 | ts,ds,0,h=>h
 | [],ds,n+1,h=>by simp only[zu] at h;subst h;simpa using zu.nil
 | t::ts,ds,n+1,h=>by
  simp only[zu] at h;obtain⟨c,cs,rfl,h1,h2⟩:=h;exact zu.drop' n h2
theorem zu.empty {ts:List T}{ds:List D}(h:zu S ts ds):ds.isEmpty=ts.isEmpty:=by
 have:=h.len;cases ds <;> cases ts <;> simp_all
theorem zu.YH:∀ {bs:List Bool}{ds:List D},zu S (bs.map T.bl) ds->ds=bs.map D.bl
 | [],ds,h=>by simpa only [List.map_nil,zu] using h
 | b::bs,ds,h=>by
  rw[List.map_cons] at h;simp only[zu,Sn] at h;obtain⟨c,cs,rfl,rfl,h3⟩:=h;rw[zu.YH h3];rfl
end
end L3
namespace L5
open PySem L2 L3
noncomputable def yj (S:SS) (Z:Addr->Prop):SS:=open Classical in λ a=>if Z a then none else S a
section
variable {S S' S1:SS}{Z Z':Addr->Prop}{a p:Addr}
theorem uO (h:¬ Z a):yj S Z a=S a:=if_neg h
theorem fA (h:Z a):yj S Z a=none:=if_pos h
theorem sy {o:O}(h:yj S Z a=some o):¬ Z a/\S a=some o:=by
 by_cases z:Z a
 .rw[fA z] at h;cases h
 .rw[uO z] at h;exact⟨z,h⟩
theorem je (S:SS) (Z:Addr->Prop):Sx (yj S Z) S:=λ _ _ h=>(sy h).2
theorem vx (h:Sx S S'):Sx (yj S Z) (yj S' Z):=λ b o q=>by
 obtain⟨q1,q2⟩:=sy q;rw[uO q1];exact h _ _ q2
theorem sA (h:∀ a,Z' a->Z a):Sx (yj S Z) (yj S Z'):=λ b o q=>by
 obtain⟨q1,q2⟩:=sy q;rw[uO (λ z=>q1 (h _ z))];exact q2
theorem oJ (h:Sx S S') (hp:S p=none):Sx (yj S Z) (yj S' λ a=>Z a\/a=p):=λ b o q=>by
 obtain⟨q1,q2⟩:=sy q;rw[uO]
 .exact h _ _ q2
 .rintro (z | z)
  .exact q1 z
  .subst z;rw[hp] at q2;cases q2
theorem QM {o:O}(h:Z p):yj (ups S p o) Z=yj S Z:=by
 funext b;by_cases z:Z b
 .rw[fA z,fA z]
 .rw[uO z,uO z,sY (λ e=>z (by rw[e];exact h))]
end
inductive C where
 | lst (ts:List T) | yy (kvs:List (Key×T))
noncomputable def yT (S:SS):List (Key×T)->List (Key×D)->Prop
 | [],l=>l=[]
 | (k,t)::r,l=>∃ d m,l=(k,d)::m/\Sn S t d/\yT S r m
theorem yT.sx {S S':SS}(h:Sx S S'):∀ {a:List (Key×T)}{b:List (Key×D)},yT S a b->yT S' a b
 | [],_,q=>q
 | (k,t)::r,_,q=>by
  obtain⟨d,m,q1,q2,q3⟩:=q;exact⟨d,m,q1,Sn.sx h t q2,yT.sx h q3⟩
noncomputable def sR (S:SS):C->O->Prop
 | .lst ts,.lst ds=>zu S ts ds
 | .yy a,.yy b=>yT S a b
 | _,_=>False
theorem sR.sx {S S':SS}(h:Sx S S'):∀ {c:C}{o:O},sR S c o->sR S' c o
 | .lst ts,.lst ds,q=>zu.sx h ts q
 | .yy a,.yy b,q=>yT.sx h q
inductive W where
 | im (t:T) | own (c:C)
abbrev Ev:=List (Option W)
structure ER (S:SS) (Z:Addr->Prop) (δ:yz) (ρ:Ev):Prop where
 zd:∀ a,Z a->S a≠none
 im:∀ (i:Nat) t,ρ[i]?=some (some (.im t))->∃ d,δ[i]?=some (some d)/\Sn (yj S Z) t d
 ow:∀ (i:Nat) c,ρ[i]?=some (some (.own c))->∃ p o,δ[i]?=some (some (.ref p))/\S p=some o/\sR (yj S Z) c o/\Z p
def Vw (S:SS) (Z:Addr->Prop) (y:T) (d:D):Prop:=Sn (yj S Z) y d\/∃ ts p ds,y=.lst ts/\d=.ref p/\S p=some (.lst ds)/\zu (yj S Z) ts ds/\Z p
abbrev Rk:=SS->SS->(Addr->Prop)->T->D->Prop
def YV:Rk:=λ _ S' Z y d=>Vw S' Z y d
def tj:Rk:=λ _ S' Z y d=>Sn (yj S' Z) y d
def zS:Rk:=λ S S' Z y d=>Sn (yj S' Z) y d/\∀ ts,y=.lst ts->∃ p ds,d=.ref p/\S p=none/\S' p=some (.lst ds)/\zu (yj S' λ a=>Z a\/a=p) ts ds
class Cl (R:Rk):Prop where
 cl:∀ {S S1 S':SS}{Z:Addr->Prop}{y:T}{d:D},Sx S S1->R S1 S' Z y d->R S S' Z y d
 of:∀ {S S':SS}{Z:Addr->Prop}{y:T}{d:D},(∀ ts,y≠.lst ts)->Sn (yj S' Z) y d->R S S' Z y d
instance:Cl YV:=⟨λ _ h=>h,λ _ h=>.inl h⟩
instance:Cl tj:=⟨λ _ h=>h,λ _ h=>h⟩
instance:Cl zS:=⟨λ s h=>⟨h.1,λ ts e=>by
 obtain⟨p,ds,h1,h2,h3⟩:=h.2 ts e;exact⟨p,ds,h1,s.none h2,h3⟩⟩,λ n h=>⟨h,λ ts e=>absurd e (n ts)⟩⟩
section
variable {S S' S1:SS}{Z Z':Addr->Prop}{δ:yz}{ρ:Ev}{y:T}{d:D}
theorem ER.grow (h:ER S Z δ ρ) (s:Sx S S'):ER S' Z δ ρ:=
 ⟨λ a z q=>h.zd a z (s.none q),λ i t e=>by
  obtain⟨d,h1,h2⟩:=h.im i t e;exact⟨d,h1,Sn.sx (vx s) t h2⟩,λ i ts e=>by
  obtain⟨p,ds,h1,h2,h3,h4⟩:=h.ow i ts e;exact⟨p,ds,h1,s _ _ h2,sR.sx (vx s) h3,h4⟩⟩
theorem Vw.grow (h:Vw S Z y d) (s:Sx S S'):Vw S' Z y d:=by
 rcases h with h | ⟨ts,p,ds,h1,h2,h3,h4,h5⟩
 .exact .inl (Sn.sx (vx s) y h)
 .exact .inr ⟨ts,p,ds,h1,h2,s _ _ h3,zu.sx (vx s) ts h4,h5⟩
theorem Vw.sn (h:Vw S Z y d):Sn S y d:=by
 rcases h with h | ⟨ts,p,ds,rfl,rfl,h3,h4,_⟩
 .exact Sn.sx (je S Z) y h
 .simp only[Sn];exact⟨ds,.inr ⟨p,rfl,h3⟩,zu.sx (je S Z) ts h4⟩
theorem Vw.zl (h:Vw S Z .zl d):d=.zl:=by
 rcases h with h | ⟨_,_,_,h,_⟩
 .simpa only [Sn] using h
 .cases h
theorem Vw.bl {b:Bool}(h:Vw S Z (.bl b) d):d=.bl b:=by
 rcases h with h | ⟨_,_,_,h,_⟩
 .simpa only [Sn] using h
 .cases h
theorem Vw.int {b:Int}(h:Vw S Z (.int b) d):d=.int b:=by
 rcases h with h | ⟨_,_,_,h,_⟩
 .simpa only [Sn] using h
 .cases h
theorem Vw.str {b:Str}(h:Vw S Z (.str b) d):d=.str b:=by
 rcases h with h | ⟨_,_,_,h,_⟩
 .simpa only [Sn] using h
 .cases h
theorem Vw.tup {ts:List T}(h:Vw S Z (.tup ts) d):∃ ds,d=.tup ds/\zu (yj S Z) ts ds:=by
 rcases h with h | ⟨_,_,_,h,_⟩
 .simpa only [Sn] using h
 .cases h
theorem Vw.lst {ts:List T}(h:Vw S Z (.lst ts) d):∃ ds,(d=.xb ds\/∃ a,d=.ref a/\S a=some (.lst ds))/\zu (yj S Z) ts ds:=by
 rcases h with h | ⟨us,p,ds,h1,h2,h3,h4,_⟩
 .simp only[Sn] at h;obtain⟨ds,h1,h2⟩:=h;refine⟨ds,?_,h2⟩;rcases h1 with h1 | ⟨a,h1,h3⟩
  .exact .inl h1.1
  .exact .inr ⟨a,h1,(sy h3).2⟩
 .cases h1;exact⟨ds,.inr ⟨p,h2,h3⟩,h4⟩
noncomputable def wX:T->Option (List T)
 | .tup ts=>some ts
 | .lst ts=>some ts
 | _=>none
@[simp] theorem zab (ts:List T):wX (.tup ts)=some ts:=rfl
@[simp] theorem zac (ts:List T):wX (.lst ts)=some ts:=rfl
theorem Vw.seq {ts:List T}(h:Vw S Z y d) (e:wX y=some ts):∃ ds,yw d S=some ds/\zu (yj S Z) ts ds:=by
 cases y with
 | tup us=>cases e;obtain⟨ds,rfl,h2⟩:=h.tup;exact⟨ds,rfl,h2⟩
 | lst us=>
  cases e;obtain⟨ds,h1 | ⟨a,rfl,h1⟩,h2⟩:=h.lst
  .subst h1;exact⟨ds,rfl,h2⟩
  .exact⟨ds,by unfold yw;dsimp only;rw[h1],h2⟩
 | zl=>cases e
 | bl _=>cases e
 | int _=>cases e
 | str _=>cases e
 | yk=>cases e
theorem Vw.yk (h:Vw S Z .yk d):∃ a kvs,d=.ref a/\S a=some (.yy kvs):=by
 rcases h with h | ⟨_,_,_,h,_⟩
 .simp only[Sn] at h;obtain⟨a,kvs,h1,h2⟩:=h;exact⟨a,kvs,h1,(sy h2).2⟩
 .cases h
theorem cO:Sn S .zl .zl:=by simp only[Sn]
theorem vq {b:Bool}:Sn S (.bl b) (.bl b):=by simp only[Sn]
theorem vB {i:Int}:Sn S (.int i) (.int i):=by simp only[Sn]
theorem cN {x:Str}:Sn S (.str x) (.str x):=by simp only[Sn]
theorem pZ {ts:List T}{ds:List D}(h:zu S ts ds):Sn S (.tup ts) (.tup ds):=by simp only[Sn];exact⟨ds,rfl,h⟩
theorem rh {ts:List T}{ds:List D}{p:Addr}(hz:∀ a,Z a->S a≠none) (hp:S p=none) (h:zu (yj S Z) ts ds):zS S (ups S p (.lst ds)) Z (.lst ts) (.ref p):=by
 have nz:¬ Z p:=λ z=>hz p z hp;have s:Sx S (ups S p (.lst ds)):=.new hp _;refine⟨?_,λ us e=>?_⟩
 .simp only[Sn];exact⟨ds,.inr ⟨p,rfl,by rw[uO nz,rV]⟩,zu.sx (vx s) ts h⟩
 .cases e;exact⟨p,ds,rfl,hp,rV,zu.sx (oJ s hp) ts h⟩
end
def wU (R:Rk) (f:Ev->Option T) (t:zH):Prop:=∀ S Z δ ρ y Q,ER S Z δ ρ->f ρ=some y->(∀ d S',Sx S S'->R S S' Z y d->Q d S')->t δ S Q
abbrev ue:=wU tj
abbrev yI:=wU YV
abbrev xX:=wU zS
theorem wU.imp {R R':Rk}{f:Ev->Option T}{t:zH}(h:wU R f t) (i:∀ S S' Z y d,R S S' Z y d->R' S S' Z y d):wU R' f t:=λ S Z δ ρ y Q hE e hq=>h S Z δ ρ y Q hE e λ d S' s r=>hq d S' s (i _ _ _ _ _ r)
theorem wU.er {f:Ev->Option T}{t:zH}(h:ue f t):yI f t:=h.imp λ _ _ _ _ _ r=>.inl r
theorem wU.fe {f:Ev->Option T}{t:zH}(h:xX f t):ue f t:=h.imp λ _ _ _ _ _ r=>r.1
theorem wU.fr {f:Ev->Option T}{t:zH}(h:xX f t):yI f t:=h.fe.er
@[simp] noncomputable def zt (i:Nat):Ev->Option T:=fun ρ=>match ρ[i]? with
 | some (some (.im t))=>some t
 | _=>none
@[simp] noncomputable def zc (i:Nat):Ev->Option T:=fun ρ=>match ρ[i]? with
 | some (some (.im t))=>some t
 | some (some (.own (.lst ts)))=>some (.lst ts)
 | _=>none
@[simp] noncomputable def cS (t:T):Ev->Option T:=λ _=>some t
theorem zw (i:Nat):ue (zt i) (yY i):=λ S Z δ ρ y Q hE e hq=>by
 unfold zt at e;split at e
 .rename_i t h;cases e;obtain⟨d,h1,h2⟩:=hE.im i _ h;unfold yY;rw[h1];exact hq d S (.refl S) h2
 .cases e
theorem zg (i:Nat):yI (zc i) (yY i):=λ S Z δ ρ y Q hE e hq=>by
 unfold zc at e;split at e
 .rename_i t h;cases e;obtain⟨d,h1,h2⟩:=hE.im i _ h;unfold yY;rw[h1];exact hq d S (.refl S) (.inl h2)
 .rename_i ts h;cases e;obtain⟨p,o,h1,h2,h3,h4⟩:=hE.ow i _ h;unfold yY;rw[h1];cases o with
  | yy _=>exact h3.elim
  | lst ds=>exact hq _ S (.refl S) (.inr ⟨ts,p,ds,rfl,rfl,h2,h3,h4⟩)
 .cases e
theorem zi (i:Int):xX (cS (.int i)) (dC (.int i)):=λ S Z δ ρ y Q hE e hq=>by cases e;exact hq _ S (.refl S) (Cl.of (λ _=>nofun) vB)
theorem sr (i:Bool):xX (cS (.bl i)) (dC (.bl i)):=λ S Z δ ρ y Q hE e hq=>by cases e;exact hq _ S (.refl S) (Cl.of (λ _=>nofun) vq)
theorem o7 (i:Str):xX (cS (.str i)) (dC (.str i)):=λ S Z δ ρ y Q hE e hq=>by cases e;exact hq _ S (.refl S) (Cl.of (λ _=>nofun) cN)
theorem tG:xX (cS .zl) (dC .zl):=λ S Z δ ρ y Q hE e hq=>by cases e;exact hq _ S (.refl S) (Cl.of (λ _=>nofun) cO)
@[simp] noncomputable def zb (f:T->T->Option T) (fa fb:Ev->Option T):Ev->Option T:=fun ρ=>(fa ρ).bind λ x=>(fb ρ).bind λ y=>f x y
def Good2 (R:Rk) (f:T->T->Option T) (g:xq):Prop:=∀ S Z x y z d e Q,(∀ a,Z a->S a≠none)->Vw S Z x d->Vw S Z y e->f x y=some z->(∀ c S',Sx S S'->R S S' Z z c->Q c S')->g d e S Q
theorem zm {R:Rk} [Cl R] {f:T->T->Option T}{g:xq}{fa fb:Ev->Option T}{ta tb:zH}(hg:Good2 R f g) (ha:yI fa ta) (hb:yI fb tb):wU R (zb f fa fb) (yD g ta tb):=λ S Z δ ρ y Q hE e hq=>by
 unfold zb at e;obtain⟨x,e1,e⟩:=zOb e;obtain⟨z,e2,e⟩:=zOb e;refine ha S Z δ ρ x _ hE e1 λ d S1 s1 r1=>?_;refine hb S1 Z δ ρ z _ (hE.grow s1) e2 λ d2 S2 s2 r2=>?_;exact hg S2 Z x z y d d2 Q ((hE.grow (s1.trans s2)).zd) (Vw.grow r1 s2) r2 e λ c S' s r=>hq c S' ((s1.trans s2).trans s) (Cl.cl (s1.trans s2) r)
@[simp] noncomputable def i2 (g:Int->Int->T):T->T->Option T
 | .int i,.int j=>some (g i j)
 | _,_=>none
instance {i j:Int}:Decidable (ve i j):=by unfold ve;infer_instance
instance {i j:Int}:Decidable (wI i j):=by unfold wI;infer_instance
instance {i j:Int}:Decidable (pT i j):=by unfold pT;infer_instance
@[simp] noncomputable def mP (C:Int->Int->Prop) [∀ i j,Decidable (C i j)] (g:Int->Int->T):T->T->Option T
 | .int i,.int j=>if C i j then some (g i j) else none
 | _,_=>none
theorem mT {g:Int->Int->T}{g':Int->Int->D}(h:∀ i j S,Sn S (g i j) (g' i j)) (n:∀ i j ts,g i j≠.lst ts):Good2 zS (i2 g) (xV g'):=λ S Z x y z d e Q hz hx hy ef hq=>by
 unfold i2 at ef;split at ef
 .cases ef;cases hx.int;cases hy.int;exact hq _ S (.refl S) (Cl.of (n _ _) (h _ _ _))
 .cases ef
theorem fF {C:Int->Int->Prop} [∀ i j,Decidable (C i j)] {g:Int->Int->T}{g':Int->Int->D}(h:∀ i j S,Sn S (g i j) (g' i j)) (n:∀ i j ts,g i j≠.lst ts):Good2 zS (mP C g) (fI C g'):=λ S Z x y z d e Q hz hx hy ef hq=>by
 unfold mP at ef;split at ef
 .split at ef
  .rename_i hh;cases ef;cases hx.int;cases hy.int;exact⟨hh,hq _ S (.refl S) (Cl.of (n _ _) (h _ _ _))⟩
  .cases ef
 .cases ef
@[simp] noncomputable def wW:T->T->Option T:=i2 λ i j=>.int (i-j)
@[simp] noncomputable def yt:T->T->Option T:=mP (λ _ j=>0<j) λ i j=>.int (i%j)
@[simp] noncomputable def xv:T->T->Option T:=mP wI λ i j=>.int (i/j)
@[simp] noncomputable def bG:T->T->Option T:=mP pT λ i j=>.int (i ^ j.toNat)
@[simp] noncomputable def pj:T->T->Option T:=i2 λ i j=>.bl (decide (i<=j))
@[simp] noncomputable def jg:T->T->Option T:=i2 λ i j=>.bl (decide (j<i))
@[simp] noncomputable def tL:T->T->Option T:=i2 λ i j=>.bl (decide (j<=i))
section
variable {fa fb:Ev->Option T}{ta tb:zH}
theorem vR (ha:yI fa ta) (hb:yI fb tb):xX (zb wW fa fb) (yD (xV λ i j=>.int (i-j)) ta tb):=zm (mT (λ _ _ _=>vB) λ _ _ _=>nofun) ha hb
theorem xf (ha:yI fa ta) (hb:yI fb tb):xX (zb yt fa fb) (yD (fI (λ _ j=>0<j) λ i j=>.int (i%j)) ta tb):=zm (fF (λ _ _ _=>vB) λ _ _ _=>nofun) ha hb
theorem wK (ha:yI fa ta) (hb:yI fb tb):xX (zb xv fa fb) (yD (fI wI λ i j=>.int (i/j)) ta tb):=zm (fF (λ _ _ _=>vB) λ _ _ _=>nofun) ha hb
theorem SM (ha:yI fa ta) (hb:yI fb tb):xX (zb bG fa fb) (yD (fI pT λ i j=>.int (i ^ j.toNat)) ta tb):=zm (fF (λ _ _ _=>vB) λ _ _ _=>nofun) ha hb
theorem SX (ha:yI fa ta) (hb:yI fb tb):xX (zb pj fa fb) (yD jo ta tb):=zm (mT (λ _ _ _=>vq) λ _ _ _=>nofun) ha hb
theorem gL (ha:yI fa ta) (hb:yI fb tb):xX (zb jg fa fb) (yD fS ta tb):=zm (mT (λ _ _ _=>vq) λ _ _ _=>nofun) ha hb
theorem pb (ha:yI fa ta) (hb:yI fb tb):xX (zb tL fa fb) (yD jq ta tb):=zm (mT (λ _ _ _=>vq) λ _ _ _=>nofun) ha hb
end
noncomputable def zM (neg:Bool):T->T->Option T:=λ x y=>if dep x<=60/\dep y<=60 then some (.bl (cond neg (!eqT x y) (eqT x y))) else none
noncomputable def oI (neg:Bool):T->T->Option T:=λ x y=>match wX y with
 | some ts=>if dep x<=60/\yC ts<=60 then some (.bl (cond neg (!(ts.any λ t=>eqT t x)) (ts.any λ t=>eqT t x))) else none
 | none=>none
theorem xD {neg:Bool}:Good2 zS (zM neg) (vW neg):=λ S Z x y z d e Q hz hx hy ef hq=>by
 unfold zM at ef;split at ef
 .rename_i h;cases ef;exact⟨x,y,hx.sn,hy.sn,h.1,h.2,hq _ S (.refl S) (Cl.of (λ _=>nofun) vq)⟩
 .cases ef
theorem QW {neg:Bool}:Good2 zS (oI neg) (qw neg):=λ S Z x y z d e Q hz hx hy ef hq=>by
 unfold oI at ef;split at ef
 .rename_i ts ht;split at ef
  .rename_i h;cases ef;obtain⟨ds,h1,h2⟩:=hy.seq ht;exact⟨x,ts,ds,hx.sn,h1,zu.sx (je S Z) ts h2,h.1,h.2,hq _ S (.refl S) (Cl.of (λ _=>nofun) vq)⟩
  .cases ef
 .cases ef
@[simp] noncomputable def zp:T->T->Option T:=λ x y=>match wX x,y with
 | some ts,.int i=>L2.yh ts i
 | _,_=>none
theorem zF:Good2 tj zp vk:=λ S Z x y z d e Q hz hx hy ef hq=>by
 unfold zp at ef;split at ef
 .rename_i ts i ht;cases hy.int;obtain⟨ds,h1,h2⟩:=hx.seq ht;obtain⟨c,h3,h4⟩:=h2.at ef;unfold yw at h1;split at h1
  .cases h1;exact Pq h3 (hq c S (.refl S) h4)
  .cases h1;exact Pr h3 (hq c S (.refl S) h4)
  .split at h1
   .rename_i q;cases h1;exact Pt q h3 (hq c S (.refl S) h4)
   .cases h1
  .cases h1
 .cases ef
@[simp] noncomputable def yQ:T->T->Option T
 | .int i,.int j=>some (.int (i+j))
 | .str i,.str j=>if i.length+j.length<=sizeLine then some (.str (i++j)) else none
 | .lst ts,.lst us=>if ts.length+us.length<=sizeLine then some (.lst (ts++us)) else none
 | .tup ts,.tup us=>if ts.length+us.length<=sizeLine then some (.tup (ts++us)) else none
 | _,_=>none
def uT:xq:=λ x y S Q=>match x,y with
 | .int i,.int j=>Q (.int (i+j)) S
 | .str i,.str j=>i.length+j.length<=sizeLine/\Q (.str (i++j)) S
 | .tup ds,.tup es=>ds.length+es.length<=sizeLine/\Q (.tup (ds++es)) S
 | .zl,_=>False
 | .bl _,_=>False
 | .int _,_=>False
 | .str _,_=>False
 | .tup _,_=>False
 | x,y=>match yw x S,yw y S with
  | some ds,some es=>(∀ ts,y≠.tup ts)/\ds.length+es.length<=sizeLine/\∀ r,S r=none->Q (.ref r) (ups S r (.lst (ds++es)))
  | _,_=>False
theorem good_add:Good2 zS yQ uT:=λ S Z x y z d e Q hz hx hy ef hq=>by
 unfold yQ at ef;split at ef
 .cases ef;cases hx.int;cases hy.int;exact hq _ S (.refl S) (Cl.of (λ _=>nofun) vB)
 .split at ef
  .rename_i h;cases ef;cases hx.str;cases hy.str;exact⟨h,hq _ S (.refl S) (Cl.of (λ _=>nofun) cN)⟩
  .cases ef
 .split at ef
  .rename_i h;cases ef;obtain⟨ds,h1,h2⟩:=hx.seq rfl;obtain⟨es,h3,h4⟩:=hy.seq rfl;have nt:∀ ts,e≠.tup ts:=by
    obtain⟨_,q | ⟨_,q,_⟩,_⟩:=hy.lst <;> subst q <;> exact λ _=>nofun
   have key:(∀ ts,e≠.tup ts)/\ds.length+es.length<=sizeLine/\∀ r,S r=none->Q (.ref r) (ups S r (.lst (ds++es))):=
    ⟨nt,by rw[h2.len,h4.len];exact h,λ r hr=>hq _ _ (.new hr _) (rh hz hr (h2.append h4))⟩
   obtain⟨_,q | ⟨a,q,_⟩,_⟩:=hx.lst
   .subst q;unfold uT;dsimp only;rw[h1,h3];exact key
   .subst q;unfold uT;dsimp only;rw[h1,h3];exact key
  .cases ef
 .split at ef
  .rename_i h;cases ef;obtain⟨ds,rfl,h2⟩:=hx.tup;obtain⟨es,rfl,h4⟩:=hy.tup;exact⟨by rw[h2.len,h4.len];exact h,hq _ S (.refl S) (Cl.of (λ _=>nofun) (pZ (h2.append h4)))⟩
  .cases ef
 .cases ef
def vM (f:Ev->Option Bool) (t:yZ):Prop:=∀ S Z δ ρ y Q,ER S Z δ ρ->f ρ=some y->(∀ S',Sx S S'->Q y S')->t δ S Q
@[simp] noncomputable def zR (f:Ev->Option T):Ev->Option Bool:=fun ρ=>(f ρ).bind λ x=>match x with
 | .bl b=>some b
 | _=>none
@[simp] noncomputable def rY:T->Option Bool
 | .zl=>some false
 | .bl b=>some b
 | .int i=>some (i != 0)
 | .str x=>if x.length<=sizeLine then some ((x.length:Int) != 0) else none
 | .tup ts=>some (!ts.isEmpty)
 | .lst ts=>some (!ts.isEmpty)
 | .yk=>none
@[simp] noncomputable def xS (f:Ev->Option T):Ev->Option Bool:=fun ρ=>(f ρ).bind rY
@[simp] noncomputable def tQ (f g:Ev->Option Bool):Ev->Option Bool:=fun ρ=>(f ρ).bind λ b=>if b=true then g ρ else some false
@[simp] noncomputable def vX (f g:Ev->Option Bool):Ev->Option Bool:=fun ρ=>(f ρ).bind λ b=>if b=true then some true else g ρ
@[simp] noncomputable def uW (f:Ev->Option Bool):Ev->Option Bool:=fun ρ=>(f ρ).map (!·)
section
variable {f g:Ev->Option T}{t u:zH}{fb gb:Ev->Option Bool}{tb ub:yZ}{R:Rk}
theorem yp (h:yI f t):vM (zR f) (vZ t):=λ S Z δ ρ y Q hE e hq=>by
 obtain⟨x,e1,e2⟩:=zOb e;refine h S Z δ ρ x _ hE e1 λ d S1 s1 r1=>?_;split at e2
 .cases e2;cases Vw.bl r1;exact hq S1 s1
 .cases e2
theorem vQ (h:yI f t):vM (xS f) (ZW t):=λ S Z δ ρ y Q hE e hq=>by
 obtain⟨x,e1,e2⟩:=zOb e;refine h S Z δ ρ x _ hE e1 λ d S1 s1 r1=>?_;cases x with
 | zl=>cases Vw.zl r1;cases e2;exact hq S1 s1
 | bl b=>cases Vw.bl r1;cases e2;exact hq S1 s1
 | int b=>cases Vw.int r1;cases e2;exact hq S1 s1
 | str b=>
  cases Vw.str r1;simp only[rY] at e2;split at e2
  .rename_i hh;cases e2;exact⟨hh,hq S1 s1⟩
  .cases e2
 | tup ts=>
  obtain⟨ds,rfl,h2⟩:=Vw.tup r1;cases e2;show Q (!ds.isEmpty) S1;rw[h2.empty];exact hq S1 s1
 | lst ts=>
  obtain⟨ds,rfl | ⟨a,rfl,h1⟩,h2⟩:=Vw.lst r1
  .cases e2;show Q (!ds.isEmpty) S1;rw[h2.empty];exact hq S1 s1
  .cases e2;refine WL h1 ?_;rw[h2.empty];exact hq S1 s1
 | yk=>cases e2
theorem o8 (h:vM fb tb) (h':vM gb ub):vM (tQ fb gb) (lb tb ub):=λ S Z δ ρ y Q hE e hq=>by
 obtain⟨b,e1,e2⟩:=zOb e;refine h S Z δ ρ b _ hE e1 λ S1 s1=>?_;split at e2
 .rename_i hb;rw[if_pos hb];exact h' S1 Z δ ρ y _ (hE.grow s1) e2 λ S2 s2=>hq S2 (s1.trans s2)
 .rename_i hb;rw[if_neg hb];cases e2;exact hq S1 s1
theorem uq (h:vM fb tb) (h':vM gb ub):vM (vX fb gb) (mZ tb ub):=λ S Z δ ρ y Q hE e hq=>by
 obtain⟨b,e1,e2⟩:=zOb e;refine h S Z δ ρ b _ hE e1 λ S1 s1=>?_;split at e2
 .rename_i hb;rw[if_pos hb];cases e2;exact hq S1 s1
 .rename_i hb;rw[if_neg hb];exact h' S1 Z δ ρ y _ (hE.grow s1) e2 λ S2 s2=>hq S2 (s1.trans s2)
theorem sk (h:vM fb tb):vM (uW fb) (m_ tb):=λ S Z δ ρ y Q hE e hq=>by
 unfold uW at e;obtain⟨b,e1,rfl⟩:=zOm e;exact h S Z δ ρ b _ hE e1 λ S1 s1=>hq S1 s1
@[simp] noncomputable def pK (f g:Ev->Option T):Ev->Option T:=fun ρ=>(f ρ).bind λ x=>match x with
 | .bl k=>if k=true then g ρ else some (.bl false)
 | _=>none
@[simp] noncomputable def gO (f:Ev->Option T):Ev->Option T:=fun ρ=>(f ρ).bind λ x=>match x with
 | .bl k=>some (.bl (!k))
 | _=>none
@[simp] noncomputable def Zy (c:Ev->Option Bool) (f g:Ev->Option T):Ev->Option T:=fun ρ=>(c ρ).bind λ b=>if b=true then f ρ else g ρ
theorem o9 [Cl R] (h:yI f t) (h':wU R g u):wU R (pK f g) (ly t u):=λ S Z δ ρ y Q hE e hq=>by
 obtain⟨x,e1,e2⟩:=zOb e;refine h S Z δ ρ x _ hE e1 λ d S1 s1 r1=>?_;split at e2
 .cases Vw.bl r1;split at e2
  .rename_i hb;dsimp only;rw[if_pos hb];exact h' S1 Z δ ρ y _ (hE.grow s1) e2 λ d S2 s2 r2=>hq d S2 (s1.trans s2) (Cl.cl s1 r2)
  .rename_i hb;dsimp only;rw[if_neg hb];cases e2;exact hq _ S1 s1 (Cl.of (λ _=>nofun) vq)
 .cases e2
theorem aB [Cl R] (h:yI f t):wU R (gO f) (lq t):=λ S Z δ ρ y Q hE e hq=>by
 obtain⟨x,e1,e2⟩:=zOb e;refine h S Z δ ρ x _ hE e1 λ d S1 s1 r1=>?_;split at e2
 .cases Vw.bl r1;cases e2;exact hq _ S1 s1 (Cl.of (λ _=>nofun) vq)
 .cases e2
theorem Rt [Cl R] (hc:vM fb tb) (h:wU R f t) (h':wU R g u):wU R (Zy fb f g) (lu tb t u):=λ S Z δ ρ y Q hE e hq=>by
 obtain⟨b,e1,e2⟩:=zOb e;refine hc S Z δ ρ b _ hE e1 λ S1 s1=>?_;split at e2
 .rename_i hb;rw[if_pos hb];exact h S1 Z δ ρ y _ (hE.grow s1) e2 λ d S2 s2 r2=>hq d S2 (s1.trans s2) (Cl.cl s1 r2)
 .rename_i hb;rw[if_neg hb];exact h' S1 Z δ ρ y _ (hE.grow s1) e2 λ d S2 s2 r2=>hq d S2 (s1.trans s2) (Cl.cl s1 r2)
end
noncomputable def lD (S:SS) (Z:Addr->Prop):List T->List D->Prop
 | [],ds=>ds=[]
 | t::ts,ds=>∃ c cs,ds=c::cs/\Vw S Z t c/\lD S Z ts cs
def nk (f:Ev->Option (List T)) (t:yK):Prop:=∀ S Z δ ρ ys Q,ER S Z δ ρ->f ρ=some ys->(∀ ds S',Sx S S'->lD S' Z ys ds->Q ds S')->t δ S Q
def nj (f:Ev->Option (List T)) (t:yK):Prop:=∀ S Z δ ρ ys Q,ER S Z δ ρ->f ρ=some ys->(∀ ds S',Sx S S'->zu (yj S' Z) ys ds->Q ds S')->t δ S Q
@[simp] noncomputable def zq:Ev->Option (List T):=λ _=>some []
@[simp] noncomputable def ze (f:Ev->Option T) (g:Ev->Option (List T)):Ev->Option (List T):=fun ρ=>(f ρ).bind λ x=>(g ρ).bind λ xs=>some (x::xs)
section
variable {f:Ev->Option T}{g:Ev->Option (List T)}{t:zH}{u:yK}
theorem ye:nk zq jt:=λ S Z δ ρ y Q hE e hq=>by cases e;exact hq [] S (.refl S) rfl
theorem zG:nj zq jt:=λ S Z δ ρ y Q hE e hq=>by cases e;exact hq [] S (.refl S) .nil
theorem zP (h:yI f t) (h':nk g u):nk (ze f g) (pB t u):=λ S Z δ ρ y Q hE e hq=>by
 obtain⟨x,e1,e0⟩:=zOb e;obtain⟨xs,e2,e3⟩:=zOb e0;cases e3;refine h S Z δ ρ x _ hE e1 λ d S1 s1 r1=>?_;refine h' S1 Z δ ρ xs _ (hE.grow s1) e2 λ ds S2 s2 r2=>?_;exact hq _ S2 (s1.trans s2) ⟨d,ds,rfl,Vw.grow r1 s2,r2⟩
theorem zj (h:ue f t) (h':nj g u):nj (ze f g) (pB t u):=λ S Z δ ρ y Q hE e hq=>by
 obtain⟨x,e1,e0⟩:=zOb e;obtain⟨xs,e2,e3⟩:=zOb e0;cases e3;refine h S Z δ ρ x _ hE e1 λ d S1 s1 r1=>?_;refine h' S1 Z δ ρ xs _ (hE.grow s1) e2 λ ds S2 s2 r2=>?_;exact hq _ S2 (s1.trans s2) (.cons (Sn.sx (vx s2) x r1) r2)
@[simp] noncomputable def tupS (g:Ev->Option (List T)):Ev->Option T:=fun ρ=>(g ρ).bind λ xs=>if xs.length<=sizeLine then some (.tup xs) else none
@[simp] noncomputable def wq (g:Ev->Option (List T)):Ev->Option T:=fun ρ=>(g ρ).bind λ xs=>if xs.length<=sizeLine then some (.lst xs) else none
theorem xj (h:nj g u):xX (tupS g) (Yi u):=λ S Z δ ρ y Q hE e hq=>by
 obtain⟨xs,e1,e2⟩:=zOb e;split at e2
 .rename_i hl;cases e2;refine h S Z δ ρ xs _ hE e1 λ ds S1 s1 r1=>⟨by rw[r1.len];exact hl,hq _ S1 s1 (Cl.of (λ _=>nofun) (pZ r1))⟩
 .cases e2
theorem vb (h:nj g u):xX (wq g) (Yn u):=λ S Z δ ρ y Q hE e hq=>by
 obtain⟨xs,e1,e2⟩:=zOb e;split at e2
 .rename_i hl;cases e2;refine h S Z δ ρ xs _ hE e1 λ ds S1 s1 r1=>⟨by rw[r1.len];exact hl,λ p hp=>hq _ _ (s1.trans (.new hp _)) (Cl.cl s1 (rh (hE.grow s1).zd hp r1))⟩
 .cases e2
end
@[simp] noncomputable def zD (F:List T->Option T) (g:Ev->Option (List T)):Ev->Option T:=fun ρ=>(g ρ).bind F
def uD (R:Rk) (F:List T->Option T) (f:w6):Prop:=∀ S Z ys z ds Q,(∀ a,Z a->S a≠none)->lD S Z ys ds->F ys=some z->(∀ c S',Sx S S'->R S S' Z z c->Q c S')->f ds S Q
theorem yq {R:Rk} [Cl R] {F:List T->Option T}{f:w6}{g:Ev->Option (List T)}{u:yK}(hf:uD R F f) (h:nk g u):wU R (zD F g) (wy f u):=λ S Z δ ρ y Q hE e hq=>by
 obtain⟨xs,e1,e2⟩:=zOb e;refine h S Z δ ρ xs _ hE e1 λ ds S1 s1 r1=>?_;exact hf S1 Z xs y ds Q (hE.grow s1).zd r1 e2 λ c S' s r=>hq c S' (s1.trans s) (Cl.cl s1 r)
@[simp] noncomputable def x9:List T->Option T
 | [.str z]=>if z.length<=sizeLine then some (.int z.length) else none
 | [y]=>(wX y).map λ ts=>.int ts.length
 | _=>none
theorem ui {S:SS}{Z:Addr->Prop}{y:T}{ds:List D}(h:lD S Z [y] ds):∃ d,ds=[d]/\Vw S Z y d:=by
 obtain⟨c,cs,rfl,h1,h2⟩:=h;cases h2;exact⟨c,rfl,h1⟩
theorem W5 {S:SS}{Z:Addr->Prop}{y z:T}{ds:List D}(h:lD S Z [y,z] ds):∃ d e,ds=[d,e]/\Vw S Z y d/\Vw S Z z e:=by
 obtain⟨c,cs,rfl,h1,c2,cs2,rfl,h2,h3⟩:=h;cases h3;exact⟨c,c2,rfl,h1,h2⟩
theorem vU:uD zS x9 uS:=λ S Z ys z ds Q hz hv e hq=>by
 unfold x9 at e;split at e
 .obtain⟨d,rfl,h1⟩:=ui hv;split at e
  .rename_i hl;cases e;cases h1.str;exact⟨hl,hq _ S (.refl S) (Cl.of (λ _=>nofun) vB)⟩
  .cases e
 .obtain⟨d,rfl,h1⟩:=ui hv;obtain⟨ts,e1,rfl⟩:=zOm e;obtain⟨es,h2,h3⟩:=h1.seq e1;refine Pp h2 ?_;rw[h3.len];exact hq _ S (.refl S) (Cl.of (λ _=>nofun) vB)
 .cases e
@[simp] noncomputable def listS:List T->Option T
 | [y]=>(wX y).map .lst
 | _=>none
theorem mR:uD zS listS uR:=λ S Z ys z ds Q hz hv e hq=>by
 unfold listS at e;split at e
 .obtain⟨d,rfl,h1⟩:=ui hv;obtain⟨ts,e1,rfl⟩:=zOm e;obtain⟨es,h2,h3⟩:=h1.seq e1;exact Po h2 λ p hp=>hq _ _ (.new hp _) (rh hz hp h3)
 .cases e
@[simp] noncomputable def s_:List T->Option T
 | [y]=>(wX y).map .tup
 | _=>none
theorem p8:uD zS s_ uQ:=λ S Z ys z ds Q hz hv e hq=>by
 unfold s_ at e;split at e
 .rename_i y;obtain⟨d,rfl,h1⟩:=ui hv;obtain⟨ts,e1,rfl⟩:=zOm e;obtain⟨es,h2,h3⟩:=h1.seq e1;have k:Q (.tup es) S:=hq _ S (.refl S) (Cl.of (λ _=>nofun) (pZ h3));unfold yw at h2;split at h2
  .cases h2;exact k
  .cases h2;exact k
  .split at h2
   .rename_i q;cases h2;exact Pn q k
   .cases h2
  .cases h2
 .cases e
@[simp] noncomputable def p7 (g:Int->Int->Int):List T->Option T
 | [.int i,.int j]=>some (.int (g i j))
 | _=>none
theorem Z6 {g:Int->Int->Int}:uD zS (p7 g) (u0 λ i j=>.int (g i j)):=λ S Z ys z ds Q hz hv e hq=>by
 unfold p7 at e;split at e
 .obtain⟨d,d',rfl,h1,h2⟩:=W5 hv;cases e;cases h1.int;cases h2.int;exact hq _ S (.refl S) (Cl.of (λ _=>nofun) vB)
 .cases e
@[simp] noncomputable def mH:List T->Option T:=p7 λ i j=>if j>i then j else i
@[simp] noncomputable def tH:List T->Option T:=p7 λ i j=>if j<i then j else i
noncomputable def pG:List T->Option (List Bool)
 | []=>some []
 | .bl b::ts=>(pG ts).map (b::·)
 | _::_=>none
theorem YG:∀ {ts:List T}{bs:List Bool},pG ts=some bs->ts=bs.map T.bl
 | [],bs,h=>by cases h;rfl
 | .bl b::ts,bs,h=>by
  unfold pG at h;obtain⟨cs,h1,rfl⟩:=zOm h;rw[List.map_cons,<- YG h1]
 | .zl::ts,bs,h=>by cases h
 | .int _::ts,bs,h=>by cases h
 | .str _::ts,bs,h=>by cases h
 | .tup _::ts,bs,h=>by cases h
 | .lst _::ts,bs,h=>by cases h
theorem Na (bs:List Bool):pG (bs.map T.bl)=some bs:=by
 induction bs with
 | nil=>rfl
 | cons b bs ih=>rw[List.map_cons];unfold pG;rw[ih];rfl
@[simp] noncomputable def oX (g:List Bool->Bool):List T->Option T
 | [.lst ts]=>(pG ts).map λ bs=>.bl (g bs)
 | _=>none
def u5 (g:List Bool->Bool):w6:=λ ds S Q=>match ds with
 | [.tup _]=>False
 | [d]=>∃ bs:List Bool,yw d S=some (bs.map D.bl)/\Q (.bl (g bs)) S
 | _=>False
theorem ji {g:List Bool->Bool}:uD zS (oX g) (u5 g):=λ S Z ys z ds Q hz hv e hq=>by
 unfold oX at e;split at e
 .obtain⟨d,rfl,h1⟩:=ui hv;obtain⟨bs,e1,rfl⟩:=zOm e;cases YG e1;obtain⟨es,h2,h3⟩:=h1.seq rfl;cases h3.YH;have key:∃ bs:List Bool,yw d S=some (bs.map D.bl)/\Q (.bl (g bs)) S:=⟨bs,h2,hq _ S (.refl S) (Cl.of (λ _=>nofun) vq)⟩
  obtain⟨_,q | ⟨a,q,_⟩,_⟩:=h1.lst
  .subst q;exact key
  .subst q;exact key
 .cases e
end L5
namespace L5
open PySem L2 L3
structure FR (S0:SS) (Z0:Addr->Prop) (S:SS) (Z:Addr->Prop) (δ:yz) (ρ:Ev):Prop where
 er:ER S Z δ ρ
 len:δ.length=ρ.length
 sx:Sx S0 S
 z0:∀ a,Z0 a->S0 a≠none
 zz:∀ a,Z0 a->Z a
 zn:∀ a,Z a->Z0 a\/S0 a=none
 fr:∀ (i:Nat) ts p,ρ[i]?=some (some (.own ts))->δ[i]?=some (some (.ref p))->S0 p=none
 dj:∀ (i j:Nat) ts us p,i≠j->ρ[i]?=some (some (.own ts))->ρ[j]?=some (some (.own us))->δ[i]?=some (some (.ref p))->δ[j]?=some (some (.ref p))->False
theorem xt {α:Type}{l:List α}{i j:Nat}{a b:α}(h:(l.set i a)[j]?=some b):(i=j/\i<l.length/\b=a)\/(i≠j/\l[j]?=some b):=by
 rw[List.getElem?_set] at h;by_cases e:i=j
 .subst e;rw[if_pos rfl] at h;by_cases hl:i<l.length
  .rw[if_pos hl] at h;cases h;exact .inl ⟨rfl,hl,rfl⟩
  .rw[if_neg hl] at h;cases h
 .rw[if_neg e] at h;exact .inr ⟨e,h⟩
theorem vJ {α:Type}{l:List α}{i j:Nat}{a:α}(h:i≠j):(l.set i a)[j]?=l[j]?:=by rw[List.getElem?_set,if_neg h]
theorem oM {α:Type}{l:List α}{i:Nat}{a:α}(h:i<l.length):(l.set i a)[i]?=some a:=by rw[List.getElem?_set,if_pos rfl,if_pos h]
section
variable {S0 S S':SS}{Z0 Z:Addr->Prop}{δ:yz}{ρ:Ev}{y:T}{d:D}
theorem FR.grow (h:FR S0 Z0 S Z δ ρ) (s:Sx S S'):FR S0 Z0 S' Z δ ρ:=⟨h.er.grow s,h.len,h.sx.trans s,h.z0,h.zz,h.zn,h.fr,h.dj⟩
theorem FR.t_ (h:FR S0 Z0 S Z δ ρ) (i:Nat) (r:Sn (yj S Z) y d):FR S0 Z0 S Z (δ.set i (some d)) (ρ.set i (some (.im y))):=by
 refine⟨⟨h.er.zd,λ j t e=>?_,λ j ts e=>?_⟩,by simp[h.len],h.sx,h.z0,h.zz,h.zn,λ j ts p e e'=>?_,λ j k ts us p n e1 e2 e3 e4=>?_⟩
 .rcases xt e with ⟨rfl,hl,e⟩ | ⟨n,e⟩
  .cases e;exact⟨d,oM (by rw[h.len];exact hl),r⟩
  .rw[vJ n];exact h.er.im j t e
 .rcases xt e with ⟨rfl,hl,e⟩ | ⟨n,e⟩
  .cases e
  .rw[vJ n];exact h.er.ow j ts e
 .rcases xt e with ⟨rfl,hl,e⟩ | ⟨n,e⟩
  .cases e
  .rw[vJ n] at e';exact h.fr j ts p e e'
 .rcases xt e1 with ⟨rfl,hl,e⟩ | ⟨n1,e1⟩
  .cases e
  rcases xt e2 with ⟨rfl,hl,e⟩ | ⟨n2,e2⟩
  .cases e
  rw[vJ n1] at e3;rw[vJ n2] at e4;exact h.dj j k ts us p n e1 e2 e3 e4
theorem FR.cU {ts:C}{ds:O}{p:Addr}(h:FR S0 Z0 S Z δ ρ) (s:Sx S S') (i:Nat) (hp:S p=none) (hd:S' p=some ds) (r:sR (yj S' λ a=>Z a\/a=p) ts ds):
  FR S0 Z0 S' (λ a=>Z a\/a=p) (δ.set i (some (.ref p))) (ρ.set i (some (.own ts))):=by
 have np:∀ (j:Nat) us q,ρ[j]?=some (some (.own us))->δ[j]?=some (some (.ref q))->q≠p:=λ j us q e e' z=>by
  subst z;obtain⟨p',ds',h1,h2,_⟩:=h.er.ow j us e;rw[e'] at h1;cases h1;rw[hp] at h2;cases h2
 refine⟨⟨λ a z=>?_,λ j t e=>?_,λ j us e=>?_⟩,by simp[h.len],h.sx.trans s,h.z0,λ a z=>.inl (h.zz a z),λ a z=>z.elim (h.zn a) (λ q=>.inr (by subst q;exact h.sx.none hp)),λ j us q e e'=>?_,λ j k us vs q n e1 e2 e3 e4=>?_⟩
 .rcases z with z | rfl
  .exact λ q=>h.er.zd a z (s.none q)
  .rw[hd];nofun
 .rcases xt e with ⟨rfl,hl,e⟩ | ⟨n,e⟩
  .cases e
  .rw[vJ n];obtain⟨d,h1,h2⟩:=h.er.im j t e;exact⟨d,h1,Sn.sx (oJ s hp) t h2⟩
 .rcases xt e with ⟨rfl,hl,e⟩ | ⟨n,e⟩
  .cases e;exact⟨p,ds,oM (by rw[h.len];exact hl),hd,r,.inr rfl⟩
  .rw[vJ n];obtain⟨q,es,h1,h2,h3,h4⟩:=h.er.ow j us e;exact⟨q,es,h1,s _ _ h2,sR.sx (oJ s hp) h3,.inl h4⟩
 .rcases xt e with ⟨rfl,hl,e⟩ | ⟨n,e⟩
  .rw[oM (by rw[h.len];exact hl)] at e';cases e';exact h.sx.none hp
  .rw[vJ n] at e';exact h.fr j us q e e'
 .rcases xt e1 with ⟨rfl,hl,e⟩ | ⟨n1,e1⟩
  .rcases xt e2 with ⟨rfl,_,_⟩ | ⟨n2,e2⟩
   .exact n rfl
   .rw[oM (by rw[h.len];exact hl)] at e3;cases e3;rw[vJ n2] at e4;exact np k vs p e2 e4 rfl
  .rcases xt e2 with ⟨rfl,hl,_⟩ | ⟨n2,e2⟩
   .rw[oM (by rw[h.len];exact hl)] at e4;cases e4;rw[vJ n1] at e3;exact np j us p e1 e3 rfl
   .rw[vJ n1] at e3;rw[vJ n2] at e4;exact h.dj j k us vs q n e1 e2 e3 e4
theorem FR.forget (h:FR S0 Z0 S Z δ ρ) (i:Nat):FR S0 Z0 S Z δ (ρ.set i none):=by
 refine⟨⟨h.er.zd,λ j t e=>?_,λ j ts e=>?_⟩,by simp[h.len],h.sx,h.z0,h.zz,h.zn,λ j ts p e e'=>?_,λ j k ts us p n e1 e2 e3 e4=>?_⟩
 .rcases xt e with ⟨rfl,hl,e⟩ | ⟨n,e⟩
  .cases e
  .exact h.er.im j t e
 .rcases xt e with ⟨rfl,hl,e⟩ | ⟨n,e⟩
  .cases e
  .exact h.er.ow j ts e
 .rcases xt e with ⟨rfl,hl,e⟩ | ⟨n,e⟩
  .cases e
  .exact h.fr j ts p e e'
 .rcases xt e1 with ⟨rfl,hl,e⟩ | ⟨n1,e1⟩
  .cases e
  rcases xt e2 with ⟨rfl,hl,e⟩ | ⟨n2,e2⟩
  .cases e
  exact h.dj j k ts us p n e1 e2 e3 e4
@[simp] noncomputable def yU (is:List Nat) (ρ:Ev):Ev:=is.foldl (fun ρ i=>ρ.set i none) ρ
theorem FR.yU:∀ (is:List Nat) {ρ:Ev},FR S0 Z0 S Z δ ρ->FR S0 Z0 S Z δ (yU is ρ)
 | [],_,h=>h
 | i::is,_,h=>FR.yU is (h.forget i)
theorem FR.freeze {ts:List T}{p:Addr}(h:FR S0 Z0 S Z δ ρ) (i:Nat) (e:ρ[i]?=some (some (.own (.lst ts)))) (ed:δ[i]?=some (some (.ref p))):
  FR S0 Z0 S (λ a=>Z a/\a≠p) δ (ρ.set i (some (.im (.lst ts))))/\Sn (yj S λ a=>Z a/\a≠p) (.lst ts) (.ref p):=by
 obtain⟨p',o,h1,h2,h3,h4⟩:=h.er.ow i _ e;rw[ed] at h1;cases h1;obtain⟨ds,rfl⟩:∃ ds,o=.lst ds:=by
  cases o with
  | lst ds=>exact⟨ds,rfl⟩
  | yy _=>exact h3.elim
 replace h3:zu (yj S Z) ts ds:=h3;have hS:Sn (yj S λ a=>Z a/\a≠p) (.lst ts) (.ref p):=by
  simp only[Sn];exact⟨ds,.inr ⟨p,rfl,by rw[uO (λ z=>z.2 rfl)];exact h2⟩,zu.sx (sA λ a z=>z.1) ts h3⟩
 refine⟨?_,hS⟩;refine⟨⟨λ a z=>h.er.zd a z.1,λ j t e'=>?_,λ j us e'=>?_⟩,by simp[h.len],h.sx,h.z0,λ a z=>⟨h.zz a z,λ q=>?_⟩,λ a z=>h.zn a z.1,λ j us q e' ed'=>?_,λ j k us vs q n e1 e2 e3 e4=>?_⟩
 .rcases xt e' with ⟨rfl,hl,e'⟩ | ⟨n,e'⟩
  .cases e';exact⟨_,ed,hS⟩
  .obtain⟨d,g1,g2⟩:=h.er.im j t e';exact⟨d,g1,Sn.sx (sA λ a z=>z.1) t g2⟩
 .rcases xt e' with ⟨rfl,hl,e'⟩ | ⟨n,e'⟩
  .cases e'
  .obtain⟨q,es,g1,g2,g3,g4⟩:=h.er.ow j us e';exact⟨q,es,g1,g2,sR.sx (sA λ a z=>z.1) g3,g4,λ z=>by subst z;exact h.dj i j _ us q n e e' ed g1⟩
 .subst q;exact h.z0 a z (h.fr i _ a e ed)
 .rcases xt e' with ⟨rfl,hl,e'⟩ | ⟨n,e'⟩
  .cases e'
  .exact h.fr j us q e' ed'
 .rcases xt e1 with ⟨rfl,hl,e⟩ | ⟨n1,e1⟩
  .cases e
  rcases xt e2 with ⟨rfl,hl,e⟩ | ⟨n2,e2⟩
  .cases e
  exact h.dj j k us vs q n e1 e2 e3 e4
theorem FR.mut {ts us:C}{es:O}{p:Addr}(h:FR S0 Z0 S Z δ ρ) (i:Nat) (e:ρ[i]?=some (some (.own ts))) (ed:δ[i]?=some (some (.ref p))) (r:sR (yj S Z) us es):
  FR S0 Z0 (ups S p es) Z δ (ρ.set i (some (.own us))):=by
 obtain⟨p',ds,h1,h2,h3,h4⟩:=h.er.ow i ts e;rw[ed] at h1;cases h1;have hh:yj (ups S p es) Z=yj S Z:=QM h4;have hpn:=h.fr i ts p e ed;refine⟨⟨λ a z=>?_,λ j t e'=>?_,λ j vs e'=>?_⟩,by simp[h.len],λ b o q=>?_,h.z0,h.zz,h.zn,λ j vs q e' ed'=>?_,λ j k vs ws q n e1 e2 e3 e4=>?_⟩
 .by_cases hp:a=p
  .subst hp;rw[rV];nofun
  .rw[sY hp];exact h.er.zd a z
 .rw[hh];rcases xt e' with ⟨rfl,hl,e'⟩ | ⟨n,e'⟩
  .cases e'
  .exact h.er.im j t e'
 .rw[hh];rcases xt e' with ⟨rfl,hl,e'⟩ | ⟨n,e'⟩
  .cases e';exact⟨p,es,ed,rV,r,h4⟩
  .obtain⟨q,es',g1,g2,g3,g4⟩:=h.er.ow j vs e';refine⟨q,es',g1,?_,g3,g4⟩;rw[sY (λ z=>by subst z;exact h.dj i j ts vs q n e e' ed g1)];exact g2
 .rw[sY (λ z=>by subst z;rw[hpn] at q;cases q)];exact h.sx b o q
 .rcases xt e' with ⟨rfl,hl,_⟩ | ⟨n,e'⟩
  .rw[ed] at ed';cases ed';exact hpn
  .exact h.fr j vs q e' ed'
 .rcases xt e1 with ⟨rfl,hl,_⟩ | ⟨n1,e1⟩
  .rcases xt e2 with ⟨rfl,hl,_⟩ | ⟨n2,e2⟩
   .exact n rfl
   .exact h.dj _ k ts ws q n e e2 e3 e4
  .rcases xt e2 with ⟨rfl,hl,_⟩ | ⟨n2,e2⟩
   .exact h.dj j _ vs ts q n e1 e e3 e4
   .exact h.dj j k vs ws q n e1 e2 e3 e4
noncomputable def gz (S0 S:SS) (Z:Addr->Prop):SS:=open Classical in λ a=>if S0 a=none/\Z a then none else S a
theorem kB {a:Addr}(h:¬ (S0 a=none/\Z a)):gz S0 S Z a=S a:=if_neg h
theorem gy {a:Addr}(h:S0 a=none/\Z a):gz S0 S Z a=none:=if_pos h
theorem FR.rebase (h:FR S0 Z0 S Z δ ρ):∃ S1,Sx S0 S1/\FR S1 Z0 S Z δ ρ/\Sx (yj S Z) S1:=by
 refine⟨gz S0 S Z,λ b o q=>?_,⟨h.er,h.len,λ b o q=>?_,λ a z=>?_,h.zz,λ a z=>?_,λ i ts p e ed=>?_,h.dj⟩,λ b o q=>?_⟩
 .rw[kB (λ z=>by rw[z.1] at q;cases q)];exact h.sx _ _ q
 .by_cases w:S0 b=none/\Z b
  .rw[gy w] at q;cases q
  .rw[kB w] at q;exact q
 .rw[kB (λ q=>h.z0 a z q.1)];exact h.er.zd a (h.zz a z)
 .rcases h.zn a z with w | w
  .exact .inl w
  .exact .inr (gy ⟨w,z⟩)
 .obtain⟨p',ds,h1,h2,h3,h4⟩:=h.er.ow i ts e;rw[ed] at h1;cases h1;exact gy ⟨h.fr i ts p e ed,h4⟩
 .obtain⟨q1,q2⟩:=sy q;rw[kB (λ z=>q1 z.2)];exact q2
theorem FR.back {S1:SS}(h:FR S1 Z0 S Z δ ρ) (s:Sx S0 S1) (z0:∀ a,Z0 a->S0 a≠none):FR S0 Z0 S Z δ ρ:=⟨h.er,h.len,s.trans h.sx,z0,h.zz,λ a z=>(h.zn a z).imp id s.none,λ i ts p e ed=>s.none (h.fr i ts p e ed),h.dj⟩
theorem FR.V9 {S1:SS}{Z1:Addr->Prop}(h:FR S0 Z0 S Z δ ρ) (b:Sx (yj S1 Z1) S0) (zz:∀ a,Z0 a->Z1 a):Sx (yj S1 Z1) (yj S Z):=λ a o q=>by
 have q0:=b _ _ q;obtain⟨q1,q2⟩:=sy q;rw[uO]
 .exact h.sx _ _ q0
 .intro z;rcases h.zn a z with w | w
  .exact q1 (zz a w)
  .rw[w] at q0;cases q0
end
inductive Out where
 | nx (ρ:Ev) | rt (t:T) | bk (ρ:Ev) | ct (ρ:Ev)
abbrev Sm:=Ev->Option Out
def Nr (R:Rk) (S0:SS) (Z0:Addr->Prop) (o:Out) (E:qJ):Prop:=match o with
 | .nx ρ=>∀ S Z δ,FR S0 Z0 S Z δ ρ->E.nx δ S
 | .bk ρ=>∀ S Z δ,FR S0 Z0 S Z δ ρ->E.bk δ S
 | .ct ρ=>∀ S Z δ,FR S0 Z0 S Z δ ρ->E.ct δ S
 | .rt y=>∀ d S,Sx S0 S->R S0 S Z0 y d->E.rt d S
def xy (R:Rk) (g:Sm) (t:xx):Prop:=∀ S0 Z0 S Z δ ρ o E,FR S0 Z0 S Z δ ρ->g ρ=some o->Nr R S0 Z0 o E->t E δ S
class Lo (R:Rk):Prop extends Cl R where
 lo:∀ {S0 S S':SS}{Z0 Z:Addr->Prop}{y:T}{d:D},Sx S0 S->(∀ a,Z0 a->Z a)->R S S' Z y d->R S0 S' Z0 y d
instance:Lo tj:=⟨λ _ z h=>Sn.sx (sA z) _ h⟩
instance:Lo zS:=⟨λ s z h=>⟨Sn.sx (sA z) _ h.1,λ ts e=>by
 obtain⟨p,ds,h1,h2,h3,h4⟩:=h.2 ts e;exact⟨p,ds,h1,s.none h2,h3,zu.sx (sA λ a q=>q.imp (z a) id) ts h4⟩⟩⟩
@[simp] noncomputable def zy (g h:Sm):Sm:=fun ρ=>(g ρ).bind λ o=>match o with
 | .nx ρ'=>h ρ'
 | o=>some o
@[simp] noncomputable def yF:Sm:=fun ρ=>some (.nx ρ)
@[simp] noncomputable def zN (i:Nat) (f:Ev->Option T):Sm:=fun ρ=>(f ρ).map λ y=>.nx (ρ.set i (some (.im y)))
@[simp] noncomputable def u7 (i:Nat) (f:Ev->Option T):Sm:=fun ρ=>(f ρ).bind λ y=>match y with
 | .lst ts=>some (.nx (ρ.set i (some (.own (.lst ts)))))
 | y=>some (.nx (ρ.set i (some (.im y))))
@[simp] noncomputable def fZ (f:Ev->Option T):Sm:=fun ρ=>(f ρ).map λ _=>.nx ρ
@[simp] noncomputable def retS (f:Ev->Option T):Sm:=fun ρ=>(f ρ).map .rt
@[simp] noncomputable def oh (i:Nat):Sm:=fun ρ=>match ρ[i]? with
 | some (some (.own (.lst ts)))=>some (.rt (.lst ts))
 | _=>none
@[simp] noncomputable def yG (c:Ev->Option Bool) (g h:Sm):Sm:=fun ρ=>(c ρ).bind λ b=>if b=true then g ρ else h ρ
@[simp] noncomputable def fN (i:Nat) (ρ:Ev):Ev:=match ρ[i]? with
 | some (some (.own (.lst ts)))=>ρ.set i (some (.im (.lst ts)))
 | _=>ρ
@[simp] noncomputable def fM (i:Nat) (g:Sm):Sm:=fun ρ=>g (fN i ρ)
section
variable {R:Rk}{g h:Sm}{t u:xx}{f:Ev->Option T}{te:zH}
theorem zB (hg:xy R g t) (hh:xy R h u):xy R (zy g h) (lp t u):=λ S0 Z0 S Z δ ρ o E F e P=>by
 obtain⟨o1,e1,e2⟩:=zOb e;refine hg S0 Z0 S Z δ ρ o1 { E with nx:=u E } F e1 ?_;cases o1 with
 | nx ρ1=>exact λ S1 Z1 δ1 F1=>hh S0 Z0 S1 Z1 δ1 ρ1 o E F1 e2 P
 | rt y=>cases e2;exact P
 | bk y=>cases e2;exact P
 | ct y=>cases e2;exact P
theorem yN:xy R yF Yk:=λ S0 Z0 S Z δ ρ o E F e P=>by cases e;exact P S Z δ F
theorem zY (i:Nat) (hf:ue f te):xy R (zN i f) (v_ te (hName i)):=λ S0 Z0 S Z δ ρ o E F e P=>by
 obtain⟨y,e1,rfl⟩:=zOm e;exact hf S Z δ ρ y _ F.er e1 λ d S1 s1 r1=>P S1 Z _ ((F.grow s1).t_ i r1)
theorem uL (i:Nat) (hf:xX f te):xy R (u7 i f) (v_ te (hName i)):=λ S0 Z0 S Z δ ρ o E F e P=>by
 obtain⟨y,e1,e2⟩:=zOb e;refine hf S Z δ ρ y _ F.er e1 λ d S1 s1 r1=>?_;cases y with
 | lst ts=>
  cases e2;obtain⟨p,ds,rfl,h1,h2,h3⟩:=r1.2 ts rfl;exact P S1 _ _ (F.cU (ts:=.lst ts) (ds:=.lst ds) s1 i h1 h2 h3)
 | zl=>cases e2;exact P S1 Z _ ((F.grow s1).t_ i r1.1)
 | bl _=>cases e2;exact P S1 Z _ ((F.grow s1).t_ i r1.1)
 | int _=>cases e2;exact P S1 Z _ ((F.grow s1).t_ i r1.1)
 | str _=>cases e2;exact P S1 Z _ ((F.grow s1).t_ i r1.1)
 | tup _=>cases e2;exact P S1 Z _ ((F.grow s1).t_ i r1.1)
 | yk=>cases e2;exact P S1 Z _ ((F.grow s1).t_ i r1.1)
theorem av (hf:yI f te):xy R (fZ f) (ju te):=λ S0 Z0 S Z δ ρ o E F e P=>by
 obtain⟨y,e1,rfl⟩:=zOm e;exact hf S Z δ ρ y _ F.er e1 λ d S1 s1 r1=>P S1 Z _ (F.grow s1)
theorem zX [Lo R] (hf:wU R f te):xy R (retS f) (eh te):=λ S0 Z0 S Z δ ρ o E F e P=>by
 obtain⟨y,e1,rfl⟩:=zOm e;exact hf S Z δ ρ y _ F.er e1 λ d S1 s1 r1=>P d S1 (F.sx.trans s1) (Lo.lo F.sx F.zz r1)
theorem kP (i:Nat):xy zS (oh i) (eh (yY i)):=λ S0 Z0 S Z δ ρ o E F e P=>by
 unfold oh at e;split at e
 .rename_i ts h;cases e;obtain⟨p,ob,h1,h2,h3,h4⟩:=F.er.ow i _ h;obtain⟨ds,rfl⟩:∃ ds,ob=.lst ds:=by
   cases ob with
   | lst ds=>exact⟨ds,rfl⟩
   | yy _=>exact h3.elim
  replace h3:zu (yj S Z) ts ds:=h3;have hn:=F.fr i _ p h h1;have nz:¬ Z0 p:=λ z=>F.z0 p z hn;show yY i δ S E.rt;unfold yY;rw[h1];refine P _ S F.sx ⟨?_,λ us e=>?_⟩
  .simp only[Sn];exact⟨ds,.inr ⟨p,rfl,by rw[uO nz];exact h2⟩,zu.sx (sA F.zz) ts h3⟩
  .cases e;exact⟨p,ds,rfl,hn,h2,zu.sx (sA λ a q=>q.elim (F.zz a) λ q=>q▸h4) ts h3⟩
 .cases e
theorem yO {c:Ev->Option Bool}{tc:yZ}(hc:vM c tc) (hg:xy R g t) (hh:xy R h u):xy R (yG c g h) (Yp tc t u):=λ S0 Z0 S Z δ ρ o E F e P=>by
 obtain⟨b,e1,e2⟩:=zOb e;refine hc S Z δ ρ b _ F.er e1 λ S1 s1=>?_;split at e2
 .rename_i hb;rw[if_pos hb];exact hg S0 Z0 S1 Z δ ρ o E (F.grow s1) e2 P
 .rename_i hb;rw[if_neg hb];exact hh S0 Z0 S1 Z δ ρ o E (F.grow s1) e2 P
theorem FR.fz {S0 S:SS}{Z0 Z:Addr->Prop}{δ:yz}{ρ:Ev}(F:FR S0 Z0 S Z δ ρ) (i:Nat):∃ Z',FR S0 Z0 S Z' δ (fN i ρ):=by
 unfold fN;split
 .rename_i ts h;obtain⟨p,ds,h1,_⟩:=F.er.ow i _ h;exact⟨_,(F.freeze i h h1).1⟩
 .exact⟨Z,F⟩
theorem au (i:Nat) (hg:xy R g t):xy R (fM i g) t:=λ S0 Z0 S Z δ ρ o E F e P=>by
 obtain⟨Z',F'⟩:=F.fz i;exact hg S0 Z0 S Z' δ _ o E F' e P
def lF (g:T->Ev->Option Ev) (t:xO):Prop:=∀ S0 Z0 S Z δ ρ ρ' y d Q,FR S0 Z0 S Z δ ρ->Sn (yj S Z) y d->g y ρ=some ρ'->(∀ δ',FR S0 Z0 S Z δ' ρ'->Q δ' S)->t d δ S Q
def jO (g:List T->Ev->Option Ev) (t:v5):Prop:=∀ S0 Z0 S Z δ ρ ρ' ys ds Q,FR S0 Z0 S Z δ ρ->zu (yj S Z) ys ds->g ys ρ=some ρ'->(∀ δ',FR S0 Z0 S Z δ' ρ'->Q δ' S)->t ds δ S Q
@[simp] noncomputable def zK (i:Nat):T->Ev->Option Ev:=λ y ρ=>some (ρ.set i (some (.im y)))
@[simp] noncomputable def vS:List T->Ev->Option Ev
 | [],ρ=>some ρ
 | _::_,_=>none
@[simp] noncomputable def yP (g:T->Ev->Option Ev) (h:List T->Ev->Option Ev):List T->Ev->Option Ev
 | y::ys,ρ=>(g y ρ).bind fun ρ'=>h ys ρ'
 | [],_=>none
@[simp] noncomputable def vp (n:Nat) (g:List T->Ev->Option Ev):T->Ev->Option Ev
 | .tup ys,ρ=>if ys.length=n then g ys ρ else none
 | _,_=>none
theorem xT (i:Nat):lF (zK i) (hName i):=λ S0 Z0 S Z δ ρ ρ' y d Q F r e hq=>by cases e;exact hq _ (F.t_ i r)
theorem kR:jO vS fB:=λ S0 Z0 S Z δ ρ ρ' ys ds Q F r e hq=>by
 cases ys with
 | nil=>simp only[zu] at r;subst r;cases e;exact⟨rfl,hq _ F⟩
 | cons _ _=>cases e
theorem tE {g:T->Ev->Option Ev}{h:List T->Ev->Option Ev}{t:xO}{u:v5}(hg:lF g t) (hh:jO h u):jO (yP g h) (fC t u):=λ S0 Z0 S Z δ ρ ρ' ys ds Q F r e hq=>by
 cases ys with
 | nil=>cases e
 | cons y ys=>
  simp only[zu] at r;obtain⟨c,cs,rfl,r1,r2⟩:=r;obtain⟨ρ1,e1,e2⟩:=zOb e;exact hg S0 Z0 S Z δ ρ ρ1 y c _ F r1 e1 fun δ1 F1=>hh S0 Z0 S Z δ1 ρ1 ρ' ys cs Q F1 r2 e2 hq
theorem kS {n:Nat}{g:List T->Ev->Option Ev}{t:v5}(hg:jO g t):lF (vp n g) (jf n t):=λ S0 Z0 S Z δ ρ ρ' y d Q F r e hq=>by
 cases y with
 | tup ys=>
  simp only[Sn] at r;obtain⟨ds,rfl,r⟩:=r;simp only[vp] at e;split at e
  .rename_i hl;exact⟨by rw[r.len];exact hl,hg S0 Z0 S Z δ ρ ρ' ys ds Q F r e hq⟩
  .cases e
 | zl=>cases e
 | bl _=>cases e
 | int _=>cases e
 | str _=>cases e
 | lst _=>cases e
 | yk=>cases e
@[simp] noncomputable def cB (f:Ev->Option T) (g:T->Ev->Option Ev):Sm:=fun ρ=>(f ρ).bind λ y=>(g y ρ).map .nx
theorem S7 {g:T->Ev->Option Ev}{tg:xO}(hf:ue f te) (hg:lF g tg):xy R (cB f g) (v_ te tg):=λ S0 Z0 S Z δ ρ o E F e P=>by
 obtain⟨y,e1,e2⟩:=zOb e;obtain⟨ρ',e3,rfl⟩:=zOm e2;exact hf S Z δ ρ y _ F.er e1 λ d S1 s1 r1=>hg S0 Z0 S1 Z δ ρ ρ' y d _ (F.grow s1) r1 e3 fun δ' F'=>P S1 Z δ' F'
def ni (free:Bool) (f:Ev->Option (List T)) (ti:vL):Prop:=∀ S Z δ ρ ts Q,ER S Z δ ρ->f ρ=some ts->(∀ I S',Sx S S'->zu (yj S' Z) ts I.items->(∀ S'',Sx (if free=true then yj S' Z else S') S''->I.keep S'')->Q I S')->ti δ S Q
@[simp] noncomputable def xB (f:Ev->Option T):Ev->Option (List T):=fun ρ=>(f ρ).bind wX
theorem tB {f:Ev->Option T}{te:zH}(hf:yI f te):ni false (xB f) (fw te):=λ S Z δ ρ ts Q hE e hq=>by
 obtain⟨y,e1,e2⟩:=zOb e;refine hf S Z δ ρ y _ hE e1 λ d S1 s1 r1=>?_;cases y with
 | tup us=>
  cases e2;obtain⟨ds,rfl,h2⟩:=Vw.tup r1;exact hq _ S1 s1 h2 λ _ _=>trivial
 | lst us=>
  cases e2;obtain⟨ds,rfl | ⟨a,rfl,h1⟩,h2⟩:=Vw.lst r1
  .exact hq _ S1 s1 h2 λ _ _=>trivial
  .dsimp only;rw[h1];exact hq ⟨ds,_⟩ S1 s1 h2 λ S'' s=>s _ _ h1
 | zl=>cases e2
 | bl _=>cases e2
 | int _=>cases e2
 | str _=>cases e2
 | yk=>cases e2
theorem tD {f:Ev->Option T}{te:zH}(hf:ue f te):ni true (xB f) (fw te):=λ S Z δ ρ ts Q hE e hq=>by
 obtain⟨y,e1,e2⟩:=zOb e;refine hf S Z δ ρ y _ hE e1 λ d S1 s1 r1=>?_;cases y with
 | tup us=>
  cases e2;obtain⟨ds,rfl,h2⟩:=Vw.tup (.inl r1);exact hq _ S1 s1 h2 λ _ _=>trivial
 | lst us=>
  cases e2;have r2:=r1;unfold tj at r2;simp only[Sn] at r2;obtain⟨ds,⟨rfl,_⟩ | ⟨a,rfl,h1⟩,h2⟩:=r2
  .exact hq _ S1 s1 h2 λ _ _=>trivial
  .dsimp only;rw[(sy h1).2];exact hq ⟨ds,_⟩ S1 s1 h2 λ S'' s=>s _ _ h1
 | zl=>cases e2
 | bl _=>cases e2
 | int _=>cases e2
 | str _=>cases e2
 | yk=>cases e2
noncomputable def rangeT (lo:Int) (n:Nat):List T:=(List.range n).map λ(k:Nat)=>T.int (lo+(k:Int))
theorem cL {S:SS}(lo:Int) (n:Nat):zu S (rangeT lo n) (um lo n):=by
 unfold rangeT um
 induction List.range n with
 | nil=>exact .nil
 | cons k l ih=>exact .cons vB ih
noncomputable def inR (j:Int):Bool:=decide (-100000000<=j)&&decide (j<=100000000)
theorem Zx {j:Int}:inR j=true↔-100000000<=j/\j<=100000000:=by simp[inR]
theorem QI {j:Int}(h:inR j=true):-(2 ^ 62)<=j/\j<2 ^ 62:=by have:=Zx.mp h;omega
noncomputable def sa:List T->Option (List T)
 | [.int j]=>if inR j=true then some (rangeT 0 j.toNat) else none
 | _=>none
@[simp] noncomputable def uw (F:List T->Option (List T)) (g:Ev->Option (List T)):Ev->Option (List T):=fun ρ=>(g ρ).bind F
theorem q_ {b:Bool}{g:Ev->Option (List T)}{tA:yK}(h:nk g tA):ni b (uw sa g) (fx tA):=λ S Z δ ρ ts Q hE e hq=>by
 obtain⟨ys,e1,e2⟩:=zOb e;refine h S Z δ ρ ys _ hE e1 λ ds S1 s1 r1=>?_;unfold sa at e2;split at e2
 .split at e2
  .rename_i hc;cases e2;obtain⟨d,rfl,h1⟩:=ui r1;cases h1.int;exact⟨QI hc,hq _ S1 s1 (cL _ _) λ _ _=>trivial⟩
  .cases e2
 .cases e2
noncomputable def vc (is:List Nat) (g:T->Ev->Option Ev) (b:Sm):List T->Ev->Option Out
 | [],ρ=>some (.nx (yU is ρ))
 | y::ys,ρ=>(g y (yU is ρ)).bind fun ρ1=>(b ρ1).bind λ o=>match o with
  | .nx ρ2=>vc is g b ys ρ2
  | .ct ρ2=>vc is g b ys ρ2
  | .bk ρ2=>some (.nx (yU is ρ2))
  | .rt t=>some (.rt t)
@[simp] noncomputable def vj (is:List Nat) (f:Ev->Option (List T)) (g:T->Ev->Option Ev) (b:Sm):Sm:=fun ρ=>(f ρ).bind λ ts=>vc is g b ts ρ
theorem vF {is:List Nat}{fi:Ev->Option (List T)}{ti:vL}{g:T->Ev->Option Ev}{tg:xO}{b:Sm}{tb:xx} [Lo R] (hi:ni true fi ti) (hg:lF g tg) (hb:xy R b tb):xy R (vj is fi g b) (lx ti tg tb):=λ S0 Z0 S Z δ ρ o E F e P=>by
 obtain⟨ts,e1,e2⟩:=zOb e;refine hi S Z δ ρ ts _ F.er e1 λ I S1 s1 r1 hk=>?_;rw[if_pos rfl] at hk;obtain⟨SB,b1,FB,b2⟩:=(F.grow s1).rebase;have lo:∀ S' d y,R SB S' Z0 y d->R S0 S' Z0 y d:=λ S' d y r=>Lo.lo b1 (λ _ z=>z) r;have zz:=F.zz;refine⟨λ i δ' S'=>∃ Z' ρ',FR SB Z0 S' Z' δ' ρ'/\vc is g b (ts.drop i) ρ'=some o,⟨Z,ρ,FB,e2⟩,λ i δ' S' ⟨Z',ρ',F',_⟩=>hk S' (b2.trans F'.sx),λ i d δ' S' hd ⟨Z',ρ',F',e'⟩=>?_,fun δ' S' ⟨Z',ρ',F',e'⟩=>?_⟩
 .obtain⟨y,hy,r2⟩:=r1.fL hd;have hlt:=(List.getElem?_eq_some_iff.mp hy).1;have hdt:ts.drop i=y::ts.drop (i+1):=by
   rw[List.drop_eq_getElem_cons hlt,(List.getElem?_eq_some_iff.mp hy).2]
  rw[hdt] at e';unfold vc at e';obtain⟨ρ1,g1,e'⟩:=zOb e';obtain⟨o1,g2,e'⟩:=zOb e';refine hg SB Z0 S' Z' δ' _ ρ1 y d _ (F'.yU is) (Sn.sx (F'.V9 b2 zz) y r2) g1 fun δ2 F2=>?_
  refine hb SB Z0 S' Z' δ2 ρ1 o1 _ F2 g2 ?_;cases o1 with
  | nx ρ2=>exact λ S3 Z3 δ3 F3=>⟨Z3,ρ2,F3,e'⟩
  | ct ρ2=>exact λ S3 Z3 δ3 F3=>⟨Z3,ρ2,F3,e'⟩
  | bk ρ2=>cases e';exact λ S3 Z3 δ3 F3=>P S3 Z3 δ3 ((F3.yU is).back b1 F.z0)
  | rt y=>cases e';exact λ d S3 s3 r3=>P d S3 (b1.trans s3) (lo _ _ _ r3)
 .rw[show I.items.length=ts.length from r1.len,List.drop_length] at e';unfold vc at e';cases e';exact P S' Z' δ' ((F'.yU is).back b1 F.z0)
end
end L5
namespace L5
open PySem L2 L3
@[simp] noncomputable def u_ (i:Nat) (f:Ev->Option T):Sm:=fun ρ=>match ρ[i]? with
 | some (some (.own (.lst ts)))=>(f ρ).bind λ y=>if ts.length<sizeLine then some (.nx (ρ.set i (some (.own (.lst (ts++[y])))))) else none
 | _=>none
section
variable {R:Rk}{f:Ev->Option T}{te:zH}
theorem qg (i:Nat) (hf:ue f te):xy R (u_ i f) (ju (qA (yY i) te)):=λ S0 Z0 S Z δ ρ o E F e P=>by
 unfold u_ at e;split at e
 .rename_i ts h;obtain⟨y,e1,e2⟩:=zOb e;split at e2
  .rename_i hl;cases e2;obtain⟨p,ob,h1,h2,h3,h4⟩:=F.er.ow i _ h;obtain⟨ds,rfl⟩:∃ ds,ob=.lst ds:=by
    cases ob with
    | lst ds=>exact⟨ds,rfl⟩
    | yy _=>exact h3.elim
   replace h3:zu (yj S Z) ts ds:=h3;show qA (yY i) te δ S _;unfold qA yY;rw[h1];refine⟨⟨ds,h2⟩,hf S Z δ ρ y _ F.er e1 λ d S1 s1 r1=>?_⟩;dsimp only;rw[s1 _ _ h2];have F1:=F.grow s1;refine⟨by rw[h3.len];exact hl,P _ Z δ (F1.mut (us:=.lst (ts++[y])) (es:=.lst (ds++[d])) i h h1 ((zu.sx (vx s1) ts h3).append (.cons r1 .nil)))⟩
  .cases e2
 .cases e
end
def rG (pick:List (Option Nat)) (ti:vL) (g:xO) (tc:yZ) (te:zH):zH:=fun δ S Q=>ti δ S λ I S1=>I.items.length<=sizeLine/\(∀ S,Sx S1 S->I.keep S)/\∀ p,S1 p=none->∃ W:Nat->SS->List D->Prop,W 0 S1 []/\
 (∀ i S S' acc,(∀ b o,b≠p->S b=some o->S' b=some o)->W i S acc->W i S' acc)/\
 (∀ i d S acc,I.items[i]?=some d->Sx S1 S->S p=some (.lst acc)->W i S acc->g d (uK pick δ) S fun δ2 S2=>pM (uK pick δ) δ2/\tc δ2 S2 λ b S3=>if b=true then te δ2 S3 λ y S4=>Sx S S4/\W (i+1) S4 (acc++[y]) else Sx S S3/\W (i+1) S3 acc)/\
 ∀ S2 acc,Sx S1 S2->S2 p=some (.lst acc)->W I.items.length S2 acc->Q (.ref p) S2
@[simp] noncomputable def mx (pick:List (Option Nat)) (ρ:Ev):Ev:=pick.map λ o=>o.bind λ i=>(ρ[i]?).join
noncomputable def pC (h:T->Option (Option T)):List T->Option (List T)
 | []=>some []
 | y::ys=>(h y).bind λ o=>(pC h ys).map λ zs=>match o with
  | some z=>z::zs
  | none=>zs
@[simp] noncomputable def oE (pick:List (Option Nat)) (g:T->Ev->Option Ev) (c:Ev->Option Bool) (f:Ev->Option T) (ρ:Ev) (y:T):Option (Option T):=
 (g y (mx pick ρ)).bind fun ρ2=>(c ρ2).bind λ b=>if b=true then (f ρ2).map some else some none
noncomputable def wu (pick:List (Option Nat)) (it:Ev->Option (List T)) (g:T->Ev->Option Ev) (c:Ev->Option Bool) (f:Ev->Option T):Ev->Option T:=fun ρ=>(it ρ).bind λ ts=>if ts.length<=sizeLine then (pC (oE pick g c f ρ) ts).map .lst else none
@[simp] noncomputable def uZ:Ev->Option Bool:=λ _=>some true
theorem tF:vM uZ ZV:=λ S Z δ ρ y Q hE e hq=>by cases e;exact hq S (.refl S)
def jQ (pick:List (Option Nat)) (g:T->Ev->Option Ev) (t:xO):Prop:=∀ B S Z δ ρ ρ' y d Q,(∀ i:Nat,pick[i]?=some none->B[i]?=some none)->pM B δ->δ.length=ρ.length->ER S Z δ ρ->Sn (yj S Z) y d->g y ρ=some ρ'->
 (∀ δ',ER S Z δ' ρ'->pM B δ'->δ'.length=ρ'.length->Q δ' S)->t d δ S Q
def jP (pick:List (Option Nat)) (g:List T->Ev->Option Ev) (t:v5):Prop:=∀ B S Z δ ρ ρ' y d Q,(∀ i:Nat,pick[i]?=some none->B[i]?=some none)->pM B δ->δ.length=ρ.length->ER S Z δ ρ->zu (yj S Z) y d->g y ρ=some ρ'->
 (∀ δ',ER S Z δ' ρ'->pM B δ'->δ'.length=ρ'.length->Q δ' S)->t d δ S Q
theorem ER.t_ {S:SS}{Z:Addr->Prop}{δ:yz}{ρ:Ev}{y:T}{d:D}(h:ER S Z δ ρ) (hl:δ.length=ρ.length) (i:Nat) (r:Sn (yj S Z) y d):ER S Z (δ.set i (some d)) (ρ.set i (some (.im y))):=by
 refine⟨h.zd,λ j t e=>?_,λ j ts e=>?_⟩
 .rcases xt e with ⟨rfl,hl',e⟩ | ⟨n,e⟩
  .cases e;exact⟨d,oM (by rw[hl];exact hl'),r⟩
  .rw[vJ n];exact h.im j t e
 .rcases xt e with ⟨rfl,hl',e⟩ | ⟨n,e⟩
  .cases e
  .rw[vJ n];exact h.ow j ts e
variable {pick:List (Option Nat)}
theorem va (i:Nat) (hi:pick[i]?=some none:=by rfl):jQ pick (zK i) (hName i):=λ B S Z δ ρ ρ' y d Q hB hs hl hE r e hq=>by
 cases e;refine hq _ (hE.t_ hl i r) ⟨by rw[List.length_set];exact hs.1,λ j c q=>?_⟩ (by simp[hl]);by_cases hj:i=j
 .subst hj;rw[hB i hi] at q;cases q
 .rw[vJ hj];exact hs.2 j c q
theorem ax:jP pick vS fB:=λ B S Z δ ρ ρ' y d Q hB hs hl hE r e hq=>by
 cases y with
 | nil=>simp only[zu] at r;subst r;cases e;exact⟨rfl,hq _ hE hs hl⟩
 | cons _ _=>cases e
theorem kT {g:T->Ev->Option Ev}{h:List T->Ev->Option Ev}{t:xO}{u:v5}(hg:jQ pick g t) (hh:jP pick h u):jP pick (yP g h) (fC t u):=λ B S Z δ ρ ρ' y d Q hB hs hl hE r e hq=>by
 cases y with
 | nil=>cases e
 | cons y ys=>
  simp only[zu] at r;obtain⟨c,cs,rfl,r1,r2⟩:=r;obtain⟨ρ1,e1,e2⟩:=zOb e;exact hg B S Z δ ρ ρ1 y c _ hB hs hl hE r1 e1 fun δ1 E1 s1 l1=>hh B S Z δ1 ρ1 ρ' ys cs Q hB s1 l1 E1 r2 e2 hq
theorem ay {n:Nat}{g:List T->Ev->Option Ev}{t:v5}(hg:jP pick g t):jQ pick (vp n g) (jf n t):=λ B S Z δ ρ ρ' y d Q hB hs hl hE r e hq=>by
 cases y with
 | tup ys=>
  simp only[Sn] at r;obtain⟨ds,rfl,r⟩:=r;simp only[vp] at e;split at e
  .rename_i hn;exact⟨by rw[r.len];exact hn,hg B S Z δ ρ ρ' ys ds Q hB hs hl hE r e hq⟩
  .cases e
 | zl=>cases e
 | bl _=>cases e
 | int _=>cases e
 | str _=>cases e
 | lst _=>cases e
 | yk=>cases e
theorem bI {ρ:Ev}{i:Nat}{w:W}(h:(mx pick ρ)[i]?=some (some w)):∃ j:Nat,pick[i]?=some (some j)/\ρ[j]?=some (some w):=by
 unfold mx at h;rw[List.getElem?_map] at h;cases q:pick[i]? with
 | none=>rw[q] at h;cases h
 | some o=>
  rw[q] at h;cases o with
  | none=>simp at h
  | some j=>
   simp only[Option.map_some,Option.bind_some,Option.some.injEq] at h;refine⟨j,rfl,?_⟩;cases q2:ρ[j]? with
   | none=>rw[q2] at h;cases h
   | some o2=>rw[q2] at h;simp only[Option.join_some] at h;rw[h]
theorem bJ {δ:yz}{i j:Nat}{d:D}(h:pick[i]?=some (some j)) (h':δ[j]?=some (some d)):(uK pick δ)[i]?=some (some d):=by
 unfold uK;rw[List.getElem?_map,h];simp[h']
theorem ER.UC {S:SS}{Z:Addr->Prop}{δ:yz}{ρ:Ev}(h:ER S Z δ ρ):ER S Z (uK pick δ) (mx pick ρ):=by
 refine⟨h.zd,λ i t e=>?_,λ i ts e=>?_⟩
 .obtain⟨j,h1,h2⟩:=bI e;obtain⟨d,h3,h4⟩:=h.im j t h2;exact⟨d,bJ h1 h3,h4⟩
 .obtain⟨j,h1,h2⟩:=bI e;obtain⟨p,ds,h3,h4⟩:=h.ow j ts h2;exact⟨p,ds,bJ h1 h3,h4⟩
theorem ER.hide {S S':SS}{Z:Addr->Prop}{δ:yz}{ρ:Ev}{p:Addr}(h:ER S Z δ ρ) (s:Sx S S') (hp:S p=none) (hp':S' p≠none):ER S' (λ a=>Z a\/a=p) δ ρ:=by
 refine⟨λ a z q=>?_,λ i t e=>?_,λ i ts e=>?_⟩
 .rcases z with z | rfl
  .exact h.zd a z (s.none q)
  .exact hp' q
 .obtain⟨d,h1,h2⟩:=h.im i t e;exact⟨d,h1,Sn.sx (oJ s hp) t h2⟩
 .obtain⟨q,ds,h1,h2,h3,h4⟩:=h.ow i ts e;exact⟨q,ds,h1,s _ _ h2,sR.sx (oJ s hp) h3,.inl h4⟩
theorem vv {it:Ev->Option (List T)}{ti:vL}{g:T->Ev->Option Ev}{tg:xO}{c:Ev->Option Bool}{tc:yZ}{f:Ev->Option T}{te:zH}{b:Bool}(hi:ni b it ti) (hg:jQ pick g tg) (hc:vM c tc) (hf:ue f te):
  xX (wu pick it g c f) (rG pick ti tg tc te):=λ S Z δ ρ y Q hE e hq=>by
 obtain⟨ts,e1,e2⟩:=zOb e;split at e2
 case isFalse=>cases e2
 rename_i hlen;obtain⟨zs,e3,rfl⟩:=zOm e2;refine hi S Z δ ρ ts _ hE e1 λ I S1 s1 r1 hk=>⟨by rw[r1.len];exact hlen,λ S' s'=>hk S' ?_,λ p hp=>?_⟩
 .cases b
  .exact s'
  .exact (je _ _).trans s'
 have E1:=hE.grow s1;have nz:¬ Z p:=λ z=>E1.zd p z hp;refine⟨λ i S' acc=>∃ us ws,zu (yj S' λ a=>Z a\/a=p) us acc/\pC (oE pick g c f ρ) (ts.drop i)=some ws/\zs=us++ws,⟨[],zs,.nil,e3,rfl⟩,λ i S' S'' acc hh ⟨us,ws,h1,h2⟩=>⟨us,ws,zu.sx (λ a o q=>?_) us h1,h2⟩,λ i d S2 acc hd s2 hacc ⟨us,ws,h1,h2,h3⟩=>?_,λ S2 acc s2 hacc ⟨us,ws,h1,h2,h3⟩=>?_⟩
 .obtain⟨q1,q2⟩:=sy q;rw[uO q1];exact hh a o (λ z=>q1 (.inr z)) q2
 .obtain⟨x,hx,rx⟩:=r1.fL hd;have hlt:=(List.getElem?_eq_some_iff.mp hx).1;have hdt:ts.drop i=x::ts.drop (i+1):=by rw[List.drop_eq_getElem_cons hlt,(List.getElem?_eq_some_iff.mp hx).2]
  rw[hdt] at h2;unfold pC at h2;obtain⟨o,o1,h2⟩:=zOb h2;obtain⟨ws',o2,rfl⟩:=zOm h2;have E2:=(E1.hide s2 hp (by rw[hacc];nofun)).UC (pick:=pick);unfold oE at o1;obtain⟨ρ2,g1,o1⟩:=zOb o1;obtain⟨bb,g2,o1⟩:=zOb o1;refine hg (uK pick δ) S2 _ _ _ ρ2 x d _ (λ j hj=>?_) ⟨rfl,λ _ _ q=>q⟩ (by unfold uK mx;simp) E2 (Sn.sx (oJ s2 hp) x rx) g1 fun δ2 E3 l3 _=>⟨l3,?_⟩
  .unfold uK;rw[List.getElem?_map,hj];rfl
  refine hc S2 _ δ2 ρ2 bb _ E3 g2 λ S3 s3=>?_;split at o1
  .rename_i hb;rw[if_pos hb];obtain⟨z,g3,rfl⟩:=zOm o1;refine hf S3 _ δ2 ρ2 z _ (E3.grow s3) g3 λ dz S4 s4 r4=>⟨s3.trans s4,us++[z],ws',?_,o2,by rw[h3];simp⟩;exact (zu.sx (vx (s3.trans s4)) us h1).append (.cons r4 .nil)
  .rename_i hb;rw[if_neg hb];cases o1;exact⟨s3,us,ws',zu.sx (vx s3) us h1,o2,h3⟩
 .rw[show I.items.length=ts.length from r1.len,List.drop_length] at h2;cases h2;rw[List.append_nil] at h3;subst h3;refine hq _ S2 (s1.trans s2) ⟨?_,λ vs e=>?_⟩
  .simp only[Sn];exact⟨acc,.inr ⟨p,rfl,by rw[uO nz];exact hacc⟩,zu.sx (sA λ a z=>.inl z) zs h1⟩
  .cases e;exact⟨p,acc,rfl,s1.none hp,hacc,h1⟩
class Sr (R:Rk):Prop extends Lo R where
 sn:∀ {S S':SS}{Z:Addr->Prop}{y:T}{d:D},R S S' Z y d->Sn (yj S' Z) y d
instance:Sr tj:=⟨λ h=>h⟩
instance:Sr zS:=⟨λ h=>h.1⟩
def yg (R:Rk) (F:List T->Option T):qD:=λ ds S Q=>∃ Z ys y,(∀ a,Z a->S a≠none)/\zu (yj S Z) ys ds/\F ys=some y/\∀ d S',Sx S S'->R S S' Z y d->Q d S'
theorem yg.mo {R:Rk}{F:List T->Option T}:eU (yg R F):=λ _ _ _ _ hq ⟨Z,ys,y,h1,h2,h3,h4⟩=>⟨Z,ys,y,h1,h2,h3,λ d S' s r=>hq _ _ (h4 d S' s r)⟩
theorem yb {R:Rk} [Lo R] {F:List T->Option T}{g:Ev->Option (List T)}{u:yK}(h:nj g u):wU R (zD F g) (ei (yg R F) u):=λ S Z δ ρ y Q hE e hq=>by
 obtain⟨xs,e1,e2⟩:=zOb e;refine h S Z δ ρ xs _ hE e1 λ ds S1 s1 r1=>?_;exact⟨Z,xs,y,(hE.grow s1).zd,r1,e2,λ d S' s r=>hq d S' (s1.trans s) (Cl.cl s1 r)⟩
@[simp] noncomputable def qN (N:List Str) (ys:List T):Ev:=ys.map (λ y=>some (.im y))++List.replicate (N.length-ys.length) none
@[simp] noncomputable def ah:Option Out->Option T
 | some (.rt y)=>some y
 | some (.nx _)=>some .zl
 | _=>none
@[simp] noncomputable def yn (N:List Str) (n:Nat) (g:Sm):List T->Option T:=λ ys=>if ys.length=n then ah (g (qN N ys)) else none
theorem yg.len {R:Rk}{N:List Str}{n:Nat}{g:Sm}{ds:List D}{S:SS}{Q:DK}(hs:yg R (yn N n g) ds S Q):ds.length=n:=by
 obtain⟨Z,ys,y,hz,r,e,hq⟩:=hs;unfold yn at e;split at e
 .rename_i h;rw[r.len];exact h
 .cases e
theorem Vq {N:List Str}{ds:List D}{i:Nat}{d:D}(h:ds[i]?=some d):(rb N ds)[i]?=some (some d):=by
 have hi:=(List.getElem?_eq_some_iff.mp h).1;unfold rb;rw[List.getElem?_append_left (by simpa using hi),List.getElem?_map,h];rfl
theorem kg {N:List Str}{ys:List T}{i:Nat}{w:W}(h:(qN N ys)[i]?=some (some w)):∃ y,ys[i]?=some y/\w=.im y:=by
 unfold qN at h;have hi:i<ys.length:=by
  rcases Nat.lt_or_ge i ys.length with q | q
  .exact q
  .rw[List.getElem?_append_right (by simpa using q),List.getElem?_replicate] at h;split at h <;> cases h
 rw[List.getElem?_append_left (by simpa using hi),List.getElem?_map] at h;cases q:ys[i]? with
 | none=>rw[q] at h;cases h
 | some y=>rw[q] at h;cases h;exact⟨y,rfl,rfl⟩
theorem O_ {R:Rk} [Lo R] {N:List Str}{n:Nat}{g:Sm}{t:xx}(h:xy R g t) {ds:List D}{S:SS}{Q:DK}(hs:yg R (yn N n g) ds S Q):t { nx:=λ _ S'=>Q .zl S',rt:=Q } (rb N ds) S:=by
 obtain⟨Z,ys,y,hz,r,e,hq⟩:=hs;unfold yn at e;split at e
 case isFalse=>cases e
 obtain⟨o,e1,e2⟩:∃ o,g (qN N ys)=some o/\ah (some o)=some y:=by
  cases q:g (qN N ys) with
  | none=>rw[q] at e;cases e
  | some o=>exact⟨o,rfl,by rw[<- q];exact e⟩
 refine h S Z S Z _ _ o _ ⟨⟨hz,λ i t e=>?_,λ i ts e=>?_⟩,?_,.refl S,hz,λ _ z=>z,λ _ z=>.inl z,λ i ts p e _=>?_,λ i j ts us p _ e _ _ _=>?_⟩ e1 ?_
 .obtain⟨y',h1,h2⟩:=kg e;cases h2;obtain⟨d,h3,h4⟩:=r.fH h1;exact⟨d,Vq h3,h4⟩
 .obtain⟨y',h1,h2⟩:=kg e;cases h2
 .unfold rb qN;have:=r.len;simp[this]
 .obtain⟨y',h1,h2⟩:=kg e;cases h2
 .obtain⟨y',h1,h2⟩:=kg e;cases h2
 .cases o with
  | rt y'=>cases e2;exact λ d S' s r=>hq d S' s r
  | nx ρ'=>
   cases e2;exact λ S' Z' δ' F=>hq .zl S' F.sx (Cl.of (λ _=>nofun) cO)
  | bk _=>cases e2
  | ct _=>cases e2
end L5
namespace L5
open PySem L2 L3
noncomputable def xR (kvs:List (Key×T)) (k:Key):Option T:=(kvs.find? λ kv=>decide (kv.1=k)).map (·.2)
noncomputable def uH (kvs:List (Key×T)) (k:Key) (v:T):List (Key×T):=
 if (kvs.any λ kv=>decide (kv.1=k))=true then kvs.map (λ kv=>if kv.1=k then (kv.1,v) else kv) else kvs++[(k,v)]
section
variable {S:SS}
theorem yT.len:∀ {a:List (Key×T)}{b:List (Key×D)},yT S a b->b.length=a.length
 | [],_,h=>by cases h;rfl
 | (k,t)::r,_,h=>by
  obtain⟨d,m,rfl,_,h2⟩:=h;simp[yT.len h2]
theorem yT.val:∀ {a:List (Key×T)}{b:List (Key×D)}(k:Key),yT S a b->(xR a k=none/\uF b k=none)\/∃ t d,xR a k=some t/\uF b k=some d/\Sn S t d
 | [],_,k,h=>by cases h;exact .inl ⟨rfl,rfl⟩
 | (j,t)::r,_,k,h=>by
  obtain⟨d,m,rfl,h1,h2⟩:=h;by_cases e:j=k
  .subst e;exact .inr ⟨t,d,by simp[xR],by simp[uF],h1⟩
  .rcases yT.val k h2 with ⟨g1,g2⟩ | ⟨t',d',g1,g2,g3⟩
   .exact .inl ⟨by simpa [xR,e] using g1,by simpa [uF,e] using g2⟩
   .exact .inr ⟨t',d',by simpa [xR,e] using g1,by simpa [uF,e] using g2,g3⟩
theorem yT.any:∀ {a:List (Key×T)}{b:List (Key×D)}(k:Key),yT S a b->(b.any λ kv=>decide (kv.1=k))=a.any λ kv=>decide (kv.1=k)
 | [],_,k,h=>by cases h;rfl
 | (j,t)::r,_,k,h=>by
  obtain⟨d,m,rfl,h1,h2⟩:=h;rw[List.any_cons,List.any_cons,yT.any k h2]
theorem yT.sd {k:Key}{t:T}{d:D}(r:Sn S t d):∀ {a:List (Key×T)}{b:List (Key×D)},yT S a b->yT S (a.map λ kv=>if kv.1=k then (kv.1,t) else kv) (b.map λ kv=>if kv.1=k then (kv.1,d) else kv)
 | [],_,h=>by cases h;rfl
 | (j,u)::a,_,h=>by
  obtain⟨e,m,rfl,h1,h2⟩:=h;rw[List.map_cons,List.map_cons];by_cases q:j=k
  .rw[if_pos q,if_pos q];exact⟨d,_,rfl,r,yT.sd r h2⟩
  .rw[if_neg q,if_neg q];exact⟨e,_,rfl,h1,yT.sd r h2⟩
theorem yT.snoc {k:Key}{t:T}{d:D}(r:Sn S t d):∀ {a:List (Key×T)}{b:List (Key×D)},yT S a b->yT S (a++[(k,t)]) (b++[(k,d)])
 | [],_,h=>by cases h;exact⟨d,[],rfl,r,rfl⟩
 | (j,u)::a,_,h=>by
  obtain⟨e,m,rfl,h1,h2⟩:=h;exact⟨e,_,rfl,h1,yT.snoc r h2⟩
theorem yT.put {a:List (Key×T)}{b:List (Key×D)}(h:yT S a b) (k:Key) {t:T}{d:D}(r:Sn S t d):yT S (uH a k t) (putD b k d):=by
 unfold uH putD;rw[h.any k];split
 .exact yT.sd r h
 .exact yT.snoc r h
end
@[simp] noncomputable def ZZ (i:Nat):Sm:=fun ρ=>some (.nx (ρ.set i (some (.own (.yy [])))))
@[simp] noncomputable def ea (i:Nat) (f:Ev->Option T):Ev->Option T:=fun ρ=>(f ρ).bind λ y=>match ρ[i]?,y with
 | some (some (.own (.yy kvs))),.int k=>xR kvs (.inl k)
 | _,_=>none
@[simp] noncomputable def Z_ (i:Nat) (f g:Ev->Option T):Ev->Option T:=fun ρ=>(f ρ).bind λ y=>(g ρ).bind λ z=>match ρ[i]?,y with
 | some (some (.own (.yy kvs))),.int k=>some ((xR kvs (.inl k)).getD z)
 | _,_=>none
@[simp] noncomputable def ZY (i:Nat) (f v:Ev->Option T):Sm:=fun ρ=>(v ρ).bind λ z=>(f ρ).bind λ y=>match ρ[i]?,y with
 | some (some (.own (.yy kvs))),.int k=>if kvs.length<sizeLine then some (.nx (ρ.set i (some (.own (.yy (uH kvs (.inl k) z)))))) else none
 | _,_=>none
@[simp] noncomputable def f_ (i:Nat):Ev->Option T:=fun ρ=>match ρ[i]? with
 | some (some (.own (.yy kvs)))=>some (.int kvs.length)
 | _=>none
theorem kL {S:SS}{Z:Addr->Prop}{δ:yz}{ρ:Ev}(hE:ER S Z δ ρ) {i:Nat}{kvs:List (Key×T)}(h:ρ[i]?=some (some (.own (.yy kvs)))):∃ p b,δ[i]?=some (some (.ref p))/\S p=some (.yy b)/\yT (yj S Z) kvs b:=by
 obtain⟨p,o,h1,h2,h3,_⟩:=hE.ow i _ h;cases o with
 | yy b=>exact⟨p,b,h1,h2,h3⟩
 | lst _=>exact h3.elim
section
variable {R:Rk}{f g v:Ev->Option T}{ty tx tv:zH}
theorem SD (i:Nat):xy R (ZZ i) (v_ Yq (hName i)):=λ S0 Z0 S Z δ ρ o E F e P=>by
 cases e;intro p hp;exact P _ _ _ (F.cU (ts:=.yy []) (ds:=.yy []) (.new hp _) i hp rV rfl)
theorem aC (i:Nat) (hf:yI f ty):ue (ea i f) (Yt (yY i) ty):=λ S Z δ ρ y Q hE e hq=>by
 obtain⟨x,e1,e2⟩:=zOb e;split at e2
 .rename_i kvs k h;obtain⟨p,b,h1,h2,h3⟩:=kL hE h;show yY i δ S _;unfold yY;rw[h1];refine hf S Z δ ρ _ _ hE e1 λ d S1 s1 r1=>?_;cases Vw.int r1;rcases (yT.sx (vx s1) h3).val (.inl k) with ⟨g1,_⟩ | ⟨t,d,g1,g2,g3⟩
  .rw[g1] at e2;cases e2
  .rw[g1] at e2;cases e2;exact⟨p,b,k,d,rfl,rfl,s1 _ _ h2,g2,hq d S1 s1 g3⟩
 .cases e2
theorem Rx (i:Nat) (hf:yI f ty) (hg:ue g tx):ue (Z_ i f g) (Ys (yY i) ty tx):=λ S Z δ ρ y Q hE e hq=>by
 obtain⟨x,e1,e⟩:=zOb e;obtain⟨z,e2,e3⟩:=zOb e;split at e3
 .rename_i kvs k h;cases e3;obtain⟨p,b,h1,h2,h3⟩:=kL hE h;show yY i δ S _;unfold yY;rw[h1];refine⟨p,rfl,⟨b,h2⟩,hf S Z δ ρ _ _ hE e1 λ d S1 s1 r1=>?_⟩;cases Vw.int r1;refine hg S1 Z δ ρ z _ (hE.grow s1) e2 λ dz S2 s2 r2=>⟨k,b,rfl,(s1.trans s2) _ _ h2,?_⟩;rcases (yT.sx (vx (s1.trans s2)) h3).val (.inl k) with ⟨g1,g2⟩ | ⟨t,d,g1,g2,g3⟩
  .rw[g2];rw[g1] at hq;exact hq _ S2 (s1.trans s2) r2
  .rw[g2];rw[g1] at hq;exact hq _ S2 (s1.trans s2) g3
 .cases e3
theorem SA (i:Nat) (hf:yI f ty) (hv:ue v tv):xy R (ZY i f v) (Yr (yY i) ty tv):=λ S0 Z0 S Z δ ρ o E F e P=>by
 obtain⟨z,e1,e⟩:=zOb e;obtain⟨x,e2,e3⟩:=zOb e;split at e3
 .rename_i kvs k h;split at e3
  .rename_i hl;cases e3;refine hv S Z δ ρ z _ F.er e1 λ dz S1 s1 r1=>?_;have F1:=F.grow s1;obtain⟨p,b,h1,h2,h3⟩:=kL F1.er h;show yY i δ S1 _;unfold yY;rw[h1];refine hf S1 Z δ ρ _ _ F1.er e2 λ d S2 s2 r2=>?_;cases Vw.int r2;have h4:=yT.sx (vx s2) h3;exact⟨p,b,k,rfl,rfl,s2 _ _ h2,by rw[h4.len];exact hl,P _ Z δ ((F1.grow s2).mut (us:=.yy (uH kvs (.inl k) z)) (es:=.yy (putD b (.inl k) dz)) i h h1 (h4.put _ (Sn.sx (vx s2) z r1)))⟩
  .cases e3
 .cases e3
theorem Rw (i:Nat):xX (f_ i) (wy ZL (pB (yY i) jt)):=λ S Z δ ρ y Q hE e hq=>by
 unfold f_ at e;split at e
 .rename_i kvs h;cases e;obtain⟨p,b,h1,h2,h3⟩:=kL hE h;show yY i δ S _;unfold yY;rw[h1];refine⟨p,b,rfl,h2,?_⟩;rw[h3.len];exact hq _ S (.refl S) (Cl.of (λ _=>nofun) vB)
 .cases e
end
@[simp] noncomputable def rq (f:Ev->Option T):Ev->Option T:=fun ρ=>(f ρ).bind λ x=>match x with
 | .int i=>some (.int (-i))
 | _=>none
def Ym (ta:zH):zH:=fun δ S Q=>ta δ S λ x S1=>match x with
 | .int i=>Q (.int (-i)) S1
 | _=>False
theorem mC {f:Ev->Option T}{te:zH}(h:yI f te):xX (rq f) (Ym te):=λ S Z δ ρ y Q hE e hq=>by
 obtain⟨x,e1,e2⟩:=zOb e;refine h S Z δ ρ x _ hE e1 λ d S1 s1 r1=>?_;split at e2
 .cases Vw.int r1;cases e2;exact hq _ S1 s1 (Cl.of (λ _=>nofun) vB)
 .cases e2
theorem jh:uD zS mH ZK:=Z6
theorem rB:uD zS tH ZJ:=Z6
noncomputable def uN:List T->Option (List Int)
 | []=>some []
 | .int i::ts=>(uN ts).map (i::·)
 | _::_=>none
noncomputable def xH:List T->Option (List (List Int))
 | []=>some []
 | .tup r::ts=>(uN r).bind λ x=>(xH ts).map (x::·)
 | _::_=>none
noncomputable def yB (r:List Int):T:=.tup (r.map T.int)
theorem mO:∀ {ts:List T}{is:List Int},uN ts=some is->ts=is.map T.int
 | [],is,h=>by cases h;rfl
 | .int b::ts,is,h=>by
  unfold uN at h;obtain⟨cs,h1,rfl⟩:=zOm h;rw[List.map_cons,<- mO h1]
 | .zl::ts,bs,h=>by cases h
 | .bl _::ts,bs,h=>by cases h
 | .str _::ts,bs,h=>by cases h
 | .tup _::ts,bs,h=>by cases h
 | .lst _::ts,bs,h=>by cases h
theorem gs:∀ {ts:List T}{rs:List (List Int)},xH ts=some rs->ts=rs.map yB
 | [],is,h=>by cases h;rfl
 | .tup r::ts,is,h=>by
  unfold xH at h;obtain⟨x,h1,h⟩:=zOb h;obtain⟨cs,h2,rfl⟩:=zOm h;rw[List.map_cons,<- gs h2,mO h1];rfl
 | .zl::ts,bs,h=>by cases h
 | .bl _::ts,bs,h=>by cases h
 | .str _::ts,bs,h=>by cases h
 | .int _::ts,bs,h=>by cases h
 | .lst _::ts,bs,h=>by cases h
theorem Zu (is:List Int):uN (is.map T.int)=some is:=by
 induction is with
 | nil=>rfl
 | cons b bs ih=>rw[List.map_cons];unfold uN;rw[ih];rfl
theorem gu (rs:List (List Int)):xH (rs.map yB)=some rs:=by
 induction rs with
 | nil=>rfl
 | cons b bs ih=>
  show xH (.tup (b.map T.int)::bs.map yB)=_;unfold xH;rw[Zu,ih];rfl
theorem rg {S:SS}:∀ {is:List Int}{ds:List D},zu S (is.map T.int) ds↔ds=is.map D.int
 | [],ds=>by simp only[List.map_nil,zu]
 | i::is,ds=>by
  rw[List.map_cons];simp only[zu,Sn];constructor
  .rintro⟨c,cs,rfl,rfl,h⟩;rw[rg.mp h];rfl
  .rintro rfl;exact⟨.int i,_,rfl,rfl,rg.mpr rfl⟩
theorem pY {S:SS}:∀ {rs:List (List Int)}{ds:List D},zu S (rs.map yB) ds↔ds=rs.map wY
 | [],ds=>by simp only[List.map_nil,zu]
 | r::rs,ds=>by
  rw[List.map_cons];simp only[zu,yB,Sn];constructor
  .rintro⟨c,cs,rfl,⟨es,rfl,h1⟩,h⟩;rw[pY.mp h,rg.mp h1];rfl
  .rintro rfl;exact⟨wY r,_,rfl,⟨_,rfl,rg.mpr rfl⟩,pY.mpr rfl⟩
@[simp] noncomputable def c8:T->String
 | .zl=>"NoneType"
 | .bl _=>"bool"
 | .int _=>"int"
 | .str _=>"str"
 | .tup _=>"tuple"
 | .lst _=>"list"
 | .yk=>"dict"
@[simp] noncomputable def instS (ty:String) (f:Ev->Option T):Ev->Option T:=fun ρ=>(f ρ).map λ x=>.bl (vT (c8 x) ty)
theorem qh {ty:String}{f:Ev->Option T}{te:zH}(hf:yI f te):xX (instS ty f) (oS ty te):=λ S Z δ ρ y Q hE e hq=>by
 obtain⟨x,e1,rfl⟩:=zOm e;refine hf S Z δ ρ x _ hE e1 λ d S1 s1 r1=>?_;have key:rX d S1=some (c8 x):=by
  cases x with
  | zl=>cases Vw.zl r1;rfl
  | bl _=>cases Vw.bl r1;rfl
  | int _=>cases Vw.int r1;rfl
  | str _=>cases Vw.str r1;rfl
  | tup _=>obtain⟨ds,rfl,_⟩:=Vw.tup r1;rfl
  | lst _=>
   obtain⟨ds,rfl | ⟨a,rfl,h1⟩,h2⟩:=Vw.lst r1
   .rfl
   .unfold rX;dsimp only;rw[h1];rfl
  | yk=>
   obtain⟨a,kvs,rfl,h1⟩:=Vw.yk r1;unfold rX;dsimp only;rw[h1];rfl
 rw[key];exact hq _ S1 s1 (Cl.of (λ _=>nofun) vq)
@[simp] noncomputable def isNone:T->Bool
 | .zl=>true
 | _=>false
noncomputable def oH:D->Bool
 | .zl=>true
 | _=>false
end L5
namespace L5
open PySem L2 L3
noncomputable def zo (p:Int×Int):T:=.tup [.int p.1,.int p.2]
noncomputable def yv (ns:List Int):T:=.lst (ns.map .int)
@[simp] theorem zaa:sizeLine=16777216:=rfl
theorem Qe {n:Nat}(h:n<=10000):n<=sizeLine:=Nat.le_trans h (by decide)
theorem wQ {α:Type}{xs:List α}{k:Nat}{x:α}(h:xs[k]?=some x):L2.yh xs (k:Int)=some x:=by
 unfold L2.yh L2.wL;have hk:=(List.getElem?_eq_some_iff.mp h).1;rw[if_pos (by omega),if_pos (by omega)];simpa using h
@[simp] theorem lC {α:Type}{xs:List α}{x:α}:L2.yh (xs++[x]) (-1)=some x:=by
 unfold L2.yh L2.wL;rw[if_neg (by omega),if_pos (by simp;omega)];have:(-1+((xs++[x]).length:Int)).toNat=xs.length:=by simp;omega
 rw[Option.bind_some,this];simp
@[simp] theorem zah {α:Type}{x:α}{xs:List α}:L2.yh (x::xs) 0=some x:=wQ (k:=0) rfl
@[simp] theorem zag {α:Type}{x y:α}{xs:List α}:L2.yh (x::y::xs) 1=some y:=wQ (k:=1) rfl
@[simp] theorem zaf {α:Type}{x y z:α}{xs:List α}:L2.yh (x::y::z::xs) 2=some z:=wQ (k:=2) rfl
@[simp] theorem zae {α:Type}{x y z w:α}{xs:List α}:L2.yh (x::y::z::w::xs) 3=some w:=wQ (k:=3) rfl
theorem el {α:Type}(enc:α->T) (g:α->Option T) (h:T->Option (Option T)):∀ (xs:List α),(∀ x∈xs,h (enc x)=some (g x))->pC h (xs.map enc)=some (xs.filterMap g)
 | [],_=>rfl
 | x::xs,hh=>by
  rw[List.map_cons];unfold pC;rw[hh x zMc,el enc g h xs λ y hy=>hh y (zMo _ hy)];cases q:g x <;> simp[q]
theorem Ou {α:Type}(enc:α->T) (g:α->T) (h:T->Option (Option T)) (xs:List α) (hh:∀ x∈xs,h (enc x)=some (some (g x))):pC h (xs.map enc)=some (xs.map g):=by
 rw[el enc (λ x=>some (g x)) h xs hh];simp
theorem tJ {α:Type}(enc:α->T) (h:α->T) {pick:List (Option Nat)}{it:Ev->Option (List T)}{g:T->Ev->Option Ev}{c:Ev->Option Bool}{f:Ev->Option T}{ρ:Ev}(xs:List α) (hi:it ρ=some (xs.map enc)) (hl:xs.length<=16777216)
  (hh:∀ x∈xs,oE pick g c f ρ (enc x)=some (some (h x))):wu pick it g c f ρ=some (.lst (xs.map h)):=by
 unfold wu;rw[hi,Option.bind_some,if_pos (by rw[List.length_map];exact hl),Ou enc h _ xs hh];rfl
theorem mL {α:Type}(enc:α->T) (h:α->Option T) {pick:List (Option Nat)}{it:Ev->Option (List T)}{g:T->Ev->Option Ev}{c:Ev->Option Bool}{f:Ev->Option T}{ρ:Ev}(xs:List α) (hi:it ρ=some (xs.map enc)) (hl:xs.length<=16777216)
  (hh:∀ x∈xs,oE pick g c f ρ (enc x)=some (h x)):wu pick it g c f ρ=some (.lst (xs.filterMap h)):=by
 unfold wu;rw[hi,Option.bind_some,if_pos (by rw[List.length_map];exact hl),el enc h _ xs hh];rfl
section
variable {α:Type}{is:List Nat}{g:T->Ev->Option Ev}{b:Sm}
noncomputable def turn (g:T->Ev->Option Ev) (b:Sm) (y:T) (ρ:Ev):Option Out:=(g y ρ).bind b
theorem gZ (y:T) (ys:List T) (ρ:Ev):vc is g b (y::ys) ρ=(turn g b y (yU is ρ)).bind λ o=>match o with
  | .nx ρ2=>vc is g b ys ρ2
  | .ct ρ2=>vc is g b ys ρ2
  | .bk ρ2=>some (.nx (yU is ρ2))
  | .rt t=>some (.rt t):=by
 unfold turn;rw[vc];cases g y (yU is ρ) <;> rfl
theorem g_ (enc:α->T) (test:α->Bool) (v:T) (ρ0:Ev):∀ (xs:List α) (ρ:Ev),yU is ρ=ρ0->(∀ x∈xs,∃ ρ',yU is ρ'=ρ0/\turn g b (enc x) ρ0=some (if test x=true then .rt v else .nx ρ'))->vc is g b (xs.map enc) ρ=some (if xs.any test=true then .rt v else .nx ρ0)
 | [],ρ,h,_=>by rw[List.map_nil,vc,h];rfl
 | x::xs,ρ,h,hs=>by
  obtain⟨ρ',h1,h2⟩:=hs x zMc;rw[List.map_cons,gZ,h,h2,List.any_cons];cases q:test x with
  | true=>simp
  | false=>
   have ih:=g_ enc test v ρ0 xs ρ' h1 λ y hy=>hs y (zMo _ hy);simpa using ih
theorem aQ (enc:α->T) (I:List α->Ev->Prop):∀ (xs:List α) (pre:List α) (ρ:Ev),I pre (yU is ρ)->
  (∀ p x q,pre++xs=p++x::q->∀ ρ,I p ρ->∃ ρ',turn g b (enc x) ρ=some (.nx ρ')/\I (p++[x]) (yU is ρ'))->∃ ρ',vc is g b (xs.map enc) ρ=some (.nx ρ')/\I (pre++xs) ρ'
 | [],pre,ρ,h,_=>⟨yU is ρ,by rw[List.map_nil,vc],by simpa using h⟩
 | x::xs,pre,ρ,h,hs=>by
  obtain⟨ρ',h1,h2⟩:=hs pre x xs rfl _ h;rw[List.map_cons,gZ,h1];have ih:=aQ enc I xs (pre++[x]) ρ' h2 λ p y q e=>hs p y q (by rw[<- e];simp);simpa using ih
theorem tI (enc:α->T) (I:List α->Ev->Prop) (xs:List α) (ρ:Ev) (h:I [] (yU is ρ))
  (hs:∀ p x q,xs=p++x::q->∀ ρ,I p ρ->∃ ρ',turn g b (enc x) ρ=some (.nx ρ')/\I (p++[x]) (yU is ρ')):∃ ρ',vc is g b (xs.map enc) ρ=some (.nx ρ')/\I xs ρ':=aQ enc I xs [] ρ h hs
end
theorem qU (n:Nat) (h:n<=100000):sa [.int (n:Int)]=some ((List.range n).map λ(k:Nat)=>T.int (0+(k:Int))):=by
 show (if inR (n:Int)=true then some (rangeT 0 (n:Int).toNat) else none)=_;rw[if_pos (Zx.mpr ⟨by omega,by omega⟩)];rfl
theorem qL (a:Key) (b:T) (kvs:List (Key×T)) (j:Key):xR ((a,b)::kvs) j=if a=j then some b else xR kvs j:=by
 by_cases h:a=j <;> simp[xR,h]
theorem cw (k j:Key) (d:T):∀ kvs:List (Key×T),xR (kvs.map λ kv=>if kv.1=k then (kv.1,d) else kv) j=(xR kvs j).map λ x=>if j=k then d else x
 | []=>rfl
 | (a,b)::kvs=>by
  have ih:=cw k j d kvs;rw[List.map_cons];by_cases hk:a=k
  .rw[if_pos hk,qL,qL,ih];by_cases hj:a=j
   .subst hj;subst hk;simp
   .rw[if_neg hj,if_neg hj]
  .rw[if_neg hk,qL,qL,ih];by_cases hj:a=j
   .subst hj;simp[hk]
   .rw[if_neg hj,if_neg hj]
theorem cv (k j:Key) (d:T):∀ kvs:List (Key×T),(∀ kv∈kvs,¬ kv.1=k)->xR (kvs++[(k,d)]) j=if j=k then some d else xR kvs j
 | [],_=>by
  show xR [(k,d)] j=_;rw[qL];by_cases h:j=k
  .subst h;simp
  .rw[if_neg h,if_neg (λ z=>h z.symm)]
 | (a,b)::kvs,hn=>by
  have ih:=cv k j d kvs λ kv hkv=>hn kv (zMo _ hkv);have ha:¬ a=k:=hn (a,b) zMc;show xR ((a,b)::(kvs++[(k,d)])) j=_;rw[qL,qL,ih];by_cases hj:a=j
  .subst hj;simp[ha]
  .rw[if_neg hj,if_neg hj]
theorem YQ (kvs:List (Key×T)) (k:Key):(kvs.any λ kv=>decide (kv.1=k))=(xR kvs k).isSome:=by
 unfold xR;rw[Option.isSome_map,Bool.eq_iff_iff,List.any_eq_true,List.find?_isSome]
theorem lY (kvs:List (Key×T)) (k j:Key) (d:T):xR (uH kvs k d) j=if j=k then some d else xR kvs j:=by
 unfold uH;split
 .rename_i h;rw[YQ] at h;rw[cw];by_cases hj:j=k
  .subst hj;obtain⟨x,hx⟩:=Option.isSome_iff_exists.mp h;simp[hx]
  .simp[hj]
 .rename_i h;exact cv k j d kvs λ kv hkv z=>h (List.any_eq_true.mpr ⟨kv,hkv,decide_eq_true z⟩)
theorem aX (kvs:List (Key×T)) (k:Key) (d:T):(uH kvs k d).length=if (xR kvs k).isSome=true then kvs.length else kvs.length+1:=by
 have e:=YQ kvs k;unfold uH;rw[e];split <;> simp
noncomputable def uk (p:Int×Int):List Int:=[p.1,p.2]
noncomputable def rf (ps:List (Int×Int)):List (Int×Int):=(L4.wA (ps.map uk)).map λ r=>(r.getD 0 0,r.getD 1 0)
theorem cK (ps:List (Int×Int)):(rf ps).map uk=L4.wA (ps.map uk):=by
 unfold rf;rw[List.map_map]
 conv=>rhs;rw[<- List.map_id (L4.wA (ps.map uk))]
 refine List.map_congr_left λ r hr=>?_;obtain⟨p,_,rfl⟩:=List.mem_map.mp ((L4.t4 _).mem_iff.mp hr);rfl
theorem i7 (ps:List (Int×Int)):(rf ps).Perm ps:=by
 have h:=L4.t4 (ps.map uk);have:(rf ps).Perm ((ps.map uk).map λ r=>(r.getD 0 0,r.getD 1 0)):=h.map _
 rwa [List.map_map,show ((λ r:List Int=>(r.getD 0 0,r.getD 1 0)) ∘ uk)=id from rfl,List.map_id] at this
def oD (p q:Int×Int):Prop:=p.1<q.1\/(p.1=q.1/\p.2<=q.2)
theorem cJ (ps:List (Int×Int)):(rf ps).Pairwise oD:=by
 have h:=L4.i6 (ps.map uk);rw[<- cK,List.pairwise_map] at h;refine h.imp λ{p q} hpq=>?_;unfold uk at hpq;rw[HT.qm,HT.qm] at hpq;unfold oD;by_cases e:q.1=p.1
 .rw[if_pos e] at hpq;by_cases e2:q.2=p.2
  .omega
  .rw[if_neg e2] at hpq;have:=of_decide_eq_false hpq;omega
 .rw[if_neg e] at hpq;have:=of_decide_eq_false hpq;omega
theorem VT (ps:List (Int×Int)):xH (ps.map zo)=some (ps.map uk):=by
 have:=gu (ps.map uk)
 rwa [List.map_map,show yB ∘ uk=zo from rfl] at this
noncomputable def wM (q p:Int×Int):Bool:=decide (p.1<=q.1)&&decide (p.2<=q.2)
noncomputable def zZ (ps:List (Int×Int)) (q:Int×Int):Bool:=ps.any (wM q)
theorem yJ {ps:List (Int×Int)}{q:Int×Int}:zZ ps q=true↔∃ p∈ps,p.1<=q.1/\p.2<=q.2:=by
 unfold zZ wM;simp[List.any_eq_true]
theorem Oj {ps qs:List (Int×Int)}(h:ps.Perm qs) (q:Int×Int):zZ ps q=zZ qs q:=by
 rw[Bool.eq_iff_iff,yJ,yJ];exact⟨λ⟨p,h1,h2⟩=>⟨p,h.mem_iff.mp h1,h2⟩,λ⟨p,h1,h2⟩=>⟨p,h.mem_iff.mpr h1,h2⟩⟩
theorem Om (ps qs:List (Int×Int)) (q:Int×Int):zZ (ps++qs) q=(zZ ps q||zZ qs q):=by
 unfold zZ;rw[List.any_append]
def ug (ps:List (Int×Int)):Prop:=ps.Pairwise λ p q=>p.1<q.1/\q.2<p.2
theorem ug.eq:∀ {ps qs:List (Int×Int)},ug ps->ug qs->(∀ q,zZ ps q=zZ qs q)->ps=qs
 | [],[],_,_,_=>rfl
 | [],q::qs,_,_,h=>by
  have:=h q;rw[show zZ [] q=false from rfl] at this;have h2:zZ (q::qs) q=true:=yJ.mpr ⟨q,zMc,Int.le_refl _,Int.le_refl _⟩;rw[h2] at this;cases this
 | p::ps,[],_,_,h=>by
  have:=h p;rw[show zZ [] p=false from rfl] at this;have h2:zZ (p::ps) p=true:=yJ.mpr ⟨p,zMc,Int.le_refl _,Int.le_refl _⟩;rw[h2] at this;cases this
 | p::ps,q::qs,hp,hq,h=>by
  have hp1:=List.pairwise_cons.mp hp;have hq1:=List.pairwise_cons.mp hq;have a1:∃ r∈q::qs,r.1<=p.1/\r.2<=p.2:=yJ.mp (by rw[<- h];exact yJ.mpr ⟨p,zMc,Int.le_refl _,Int.le_refl _⟩);have a2:∃ r∈p::ps,r.1<=q.1/\r.2<=q.2:=yJ.mp (by rw[h];exact yJ.mpr ⟨q,zMc,Int.le_refl _,Int.le_refl _⟩);obtain⟨r,hr,r1,r2⟩:=a1;obtain⟨u,hu,u1,u2⟩:=a2;have qr:q.1<=r.1:=by
   rcases List.mem_cons.mp hr with e | e
   .subst e;exact Int.le_refl _
   .exact Int.le_of_lt (hq1.1 r e).1
  have pu:p.1<=u.1:=by
   rcases List.mem_cons.mp hu with e | e
   .subst e;exact Int.le_refl _
   .exact Int.le_of_lt (hp1.1 u e).1
  have e1:p.1=q.1:=by omega
  have er:r=q:=by
   rcases List.mem_cons.mp hr with e | e
   .exact e
   .have:=(hq1.1 r e).1;omega
  have eu:u=p:=by
   rcases List.mem_cons.mp hu with e | e
   .exact e
   .have:=(hp1.1 u e).1;omega
  subst er eu;have e2:u.2=r.2:=by omega
  have epq:u=r:=Prod.ext e1 e2;subst epq;rw[ug.eq hp1.2 hq1.2 λ x=>?_];have hx:=h x;unfold zZ at hx ⊢;rw[List.any_cons,List.any_cons] at hx;cases g:wM x u with
  | false=>rw[g] at hx;simpa using hx
  | true=>
   have gx:u.1<=x.1/\u.2<=x.2:=by simpa [wM] using g
   have key:∀ {l:List (Int×Int)},(∀ v∈l,u.1<v.1/\v.2<u.2)->l.any (wM x)=l.any (wM (x.1,u.2-1)):=by
    intro l hl;rw[Bool.eq_iff_iff,List.any_eq_true,List.any_eq_true];constructor
    .rintro⟨v,hv,hg⟩;have:=hl v hv;have hg':v.1<=x.1/\v.2<=x.2:=by simpa [wM] using hg
     exact⟨v,hv,by simp[wM];omega⟩
    .rintro⟨v,hv,hg⟩;have:=hl v hv;have hg':v.1<=x.1/\v.2<=u.2-1:=by simpa [wM] using hg
     exact⟨v,hv,by simp[wM];omega⟩
   rw[key hp1.1,key hq1.1];have hy:=h (x.1,u.2-1);unfold zZ at hy;rw[List.any_cons,List.any_cons] at hy;have gn:wM (x.1,u.2-1) u=false:=by
    unfold wM;rw[show decide (u.2<=(x.1,u.2-1).2)=false from decide_eq_false (by show ¬ u.2<=u.2-1;omega),Bool.and_false]
   rw[gn] at hy;simpa using hy
noncomputable def sM (l:Option Int) (x:Int):Bool:=match l with
 | none=>true
 | some m=>decide (x<m)
noncomputable def xm:List (Int×Int)->Option Int->List (Int×Int)
 | [],_=>[]
 | p::ps,l=>if sM l p.2=true then p::xm ps (some p.2) else xm ps l
noncomputable def vG (ps:List (Int×Int)):List (Int×Int):=xm (rf ps) none
theorem mQ:∀ (ps:List (Int×Int)) (l:Option Int) (q:Int×Int),q∈xm ps l->q∈ps/\∀ m,l=some m->q.2<m
 | [],l,q,h=>by simp[xm] at h
 | p::ps,l,q,h=>by
  unfold xm at h;split at h
  .rename_i c;have hm:∀ m,l=some m->p.2<m:=λ m e=>by subst e;simpa [sM] using c
   rcases List.mem_cons.mp h with e | e
   .subst e;exact⟨zMc,hm⟩
   .obtain⟨h1,h2⟩:=mQ ps _ q e;exact⟨zMo _ h1,λ m e=>by have:=h2 _ rfl;have:=hm m e;omega⟩
  .obtain⟨h1,h2⟩:=mQ ps _ q h;exact⟨zMo _ h1,h2⟩
theorem fD:∀ (ps:List (Int×Int)) (l:Option Int),ps.Pairwise oD->ug (xm ps l)
 | [],l,_=>by simp[xm,ug]
 | p::ps,l,h=>by
  have h1:=List.pairwise_cons.mp h;unfold xm;split
  .refine List.pairwise_cons.mpr ⟨λ q hq=>?_,fD ps _ h1.2⟩;obtain⟨g1,g2⟩:=mQ ps _ q hq;have:=h1.1 q g1;have:=g2 _ rfl;unfold oD at *;omega
  .exact fD ps _ h1.2
theorem fE:∀ (ps:List (Int×Int)) (l:Option Int),ps.Pairwise oD->∀ p∈ps,(∃ q∈xm ps l,q.1<=p.1/\q.2<=p.2)\/∃ m,l=some m/\m<=p.2
 | [],l,_,p,hp=>by cases hp
 | r::ps,l,h,p,hp=>by
  have h1:=List.pairwise_cons.mp h;unfold xm;split
  .rename_i c;rcases List.mem_cons.mp hp with e | e
   .subst e;exact .inl ⟨p,zMc,Int.le_refl _,Int.le_refl _⟩
   .rcases fE ps (some r.2) h1.2 p e with ⟨q,q1,q2⟩ | ⟨m,e1,e2⟩
    .exact .inl ⟨q,zMo _ q1,q2⟩
    .cases e1;have:=h1.1 p e;unfold oD at this;exact .inl ⟨r,zMc,by omega,e2⟩
  .rename_i c;rcases List.mem_cons.mp hp with e | e
   .subst e;cases l with
    | none=>simp[sM] at c
    | some m=>exact .inr ⟨m,rfl,by simpa [sM] using c⟩
   .exact fE ps l h1.2 p e
theorem fm (ps:List (Int×Int)):ug (vG ps):=fD _ _ (cJ ps)
theorem Qj {ps:List (Int×Int)}{q:Int×Int}(h:q∈vG ps):q∈ps:=(i7 ps).mem_iff.mp (mQ _ _ q h).1
theorem oB (ps:List (Int×Int)) (q:Int×Int):zZ (vG ps) q=zZ ps q:=by
 rw[<- Oj (i7 ps) q,Bool.eq_iff_iff,yJ,yJ];constructor
 .rintro⟨p,h1,h2⟩;exact⟨p,(mQ _ _ p h1).1,h2⟩
 .rintro⟨p,h1,h2⟩;rcases fE (rf ps) none (cJ ps) p h1 with ⟨r,r1,r2⟩ | ⟨m,e,_⟩
  .exact⟨r,r1,by omega,by omega⟩
  .cases e
end L5
namespace L2
open PySem PySem.Spec PyProof.Rows
section
variable {X:Cx}
def bC (K:PySem.W.Frag):R2:=λ x y H Q=>∃ l b xs zs,x=.ref l/\y=.ref b/\yf K H l xs/\yf K H b zs/\xs.length+zs.length<=sizeLine/\∀ p,H p=none->Q (.ref p) (upd H p (.lst (xs++zs)))
theorem Su:y4 X (binaryOp .Add) (bC X.K):=by
 intro pins s σ H x y v u Q I rx ry h;obtain⟨l,b,xs,zs,rfl,rfl,hH,hB,hz,q⟩:=h;cases rx;cases ry;obtain⟨its,r,p1,_⟩:=I.list hH;obtain⟨its2,r2,p2,_⟩:=I.list hB;obtain⟨⟨cls,dd,data,sl⟩,ho,hc,n,hd⟩:=p1.isList;obtain⟨⟨cls2,dd2,data2,sl2⟩,ho2,hc2,n2,hd2⟩:=p2.isList;simp only at hc hd hc2 hd2;subst hc hd hc2 hd2;have e:its.toArray++its2.toArray=(its++its2).toArray:=by simp
 refine concat_meets ⟨_,ho,rfl⟩ ⟨_,ho2,rfl⟩ noFill_list_add seq_list_add PySem.F.slot_list_add PySem.F.entry_list_add (PySem.F.args_list_add_2 _ _) (list_addW l b its.toArray its2.toArray n n2 dd dd2 sl sl2 (by rw[List.size_toArray,List.size_toArray,<- r.length,<- r2.length];exact hz)) ⟨ho,ho2,?_⟩;rw[e];exact⟨.ref _,_,I.Qc (t':=s.toks) (r.append r2) (by rw[List.length_append];omega),rfl,q _ I.fresh⟩
def bA (K:PySem.W.Frag):R2:=λ x y H Q=>∃ a b ys,x=.ref a/\y=.ref b/\ym K H a []/\ym K H b ys/\Q (.ref b) H
theorem Sq:y4 X (binaryOp .Add) (bA X.K):=by
 intro pins s σ H x y v u Q I rx ry h;obtain⟨l,b,ys,rfl,rfl,hH,hB,q⟩:=h;cases rx;cases ry;obtain⟨its,r,p1,_⟩:=I.tuple hH;obtain⟨its2,r2,p2,_⟩:=I.tuple hB;obtain⟨⟨cls,dd,data,sl⟩,ho,hc,n,hd⟩:=id p1;obtain⟨⟨cls2,dd2,data2,sl2⟩,ho2,hc2,n2,hd2⟩:=id p2;simp only at hc hd hc2 hd2;subst hc hd hc2 hd2;exact concat_meets ⟨_,ho,rfl⟩ ⟨_,ho2,rfl⟩ noFill_tuple_add seq_tuple_add PySem.F.slot_tuple_add PySem.F.entry_tuple_add (PySem.F.args_tuple_add_2 _ _)
   (tuple_addW0 l b its.toArray its2.toArray n n2 dd dd2 sl sl2 (by cases r;rfl)) ⟨ho,ho2,⟨.ref b,H,I,rfl,q⟩⟩
end
end L2
namespace L5
open PySem PySem.Spec L2 L3
open PyProof.Rows hiding St
section
variable {X:Cx}{K:PySem.W.Frag}{a b c e:Expr}{es:List Expr}{ta tb tc te:zH}{tA:yK}{pos p:Pos}
theorem uT.mo:w9 uT:=λ x y S Q Q' hq h=>by
 cases x with
 | zl=>exact h
 | bl _=>exact h
 | int i=>cases y <;> first | exact hq _ _ h | exact h
 | str i=>cases y <;> first | exact⟨h.1,hq _ _ h.2⟩ | exact h
 | tup i=>cases y <;> first | exact⟨h.1,hq _ _ h.2⟩ | exact h
 | xb ds=>
  unfold uT at h ⊢;dsimp only at h ⊢;split at h
  .exact⟨h.1,h.2.1,λ r hr=>hq _ _ (h.2.2 r hr)⟩
  .exact h.elim
 | ref q=>
  unfold uT at h ⊢;dsimp only at h ⊢;split at h
  .exact⟨h.1,h.2.1,λ r hr=>hq _ _ (h.2.2 r hr)⟩
  .exact h.elim
theorem qa {H:Hp}{S:SS}{d:D}{v:V}{ds:List D}(r:zk K H d v) (p:z_ K H S) (e:yw d S=some ds) (n:∀ ts,d≠.tup ts):∃ a xs,v=.ref a/\yf K H a xs/\zv K H ds xs:=by
 unfold yw at e;split at e
 .exact absurd rfl (n _)
 .cases e;simp only[zk] at r;obtain⟨a,xs,h1,h2,h3⟩:=r;exact⟨a,xs,h1,h2.sq,h3⟩
 .split at e
  .rename_i q;cases e;simp only[zk] at r;subst r;obtain⟨xs,h1,h2⟩:=p _ _ q;exact⟨_,xs,rfl,yf.of h1,h2⟩
  .cases e
 .cases e
abbrev bE (K:PySem.W.Frag):R2:=λ x y H Q=>vC (λ i j=>.int (i+j)) x y H Q\/((∃ i j,x=.str i/\y=.str j/\i.length+j.length<=sizeLine/\Q (.str (i++j)) H)\/(bC K x y H Q\/(bA K x y H Q\/bB K x y H Q)))
theorem uT.fits:xY K uT (bE K):=λ x y d e H S Q h1 h2 h3 h=>by
 have lst:(∀ ts,d≠.tup ts)->(match yw d S,yw e S with
  | some ds,some es=>(∀ ts,e≠.tup ts)/\ds.length+es.length<=sizeLine/\∀ r,S r=none->vm K H Q (.ref r) (ups S r (.lst (ds++es)))
  | _,_=>False)->bE K x y H Q:=λ n h=>by
  split at h
  .rename_i ds es q1 q2;obtain⟨a,xs,rfl,g1,g2⟩:=qa h1 h3 q1 n;obtain⟨b,ys,rfl,g3,g4⟩:=qa h2 h3 q2 h.1;refine .inr (.inr (.inl ⟨a,b,xs,ys,rfl,rfl,g1,g3,by rw[<- g2.length,<- g4.length];exact h.2.1,λ p hp=>?_⟩));exact h.2.2 p (h3.none hp) _ _ (by simp only[zk]) (.new hp _) (h3.ups (.new hp _) ⟨_,xa,zv.ext (.new hp _) _ (g2.append g4)⟩)
  .exact h.elim
 cases d with
 | zl=>exact h.elim
 | bl _=>exact h.elim
 | int i=>
  cases e with
  | int j=>
   simp only[zk] at h1 h2;exact .inl ⟨_,_,h1,h2,h _ H (by simp only[zk]) (.refl H) h3⟩
  | zl=>exact h.elim
  | bl _=>exact h.elim
  | str _=>exact h.elim
  | tup _=>exact h.elim
  | xb _=>exact h.elim
  | ref _=>exact h.elim
 | str i=>
  cases e with
  | str j=>
   simp only[zk] at h1 h2;exact .inr (.inl ⟨_,_,h1,h2,h.1,h.2 _ H (by simp only[zk]) (.refl H) h3⟩)
  | zl=>exact h.elim
  | bl _=>exact h.elim
  | int _=>exact h.elim
  | tup _=>exact h.elim
  | xb _=>exact h.elim
  | ref _=>exact h.elim
 | tup ds=>
  cases e with
  | tup es=>
   have h1':=h1;have h2':=h2;simp only[zk] at h1 h2;obtain⟨a,xs,rfl,g1,g2⟩:=h1;obtain⟨b,ys,rfl,g3,g4⟩:=h2;have hl:=g2.length;have hl':=g4.length;by_cases hx:xs=[]
   .subst hx;have:ds=[]:=by cases ds <;> simp_all
    subst this;exact .inr (.inr (.inr (.inl ⟨a,b,ys,rfl,rfl,g1,g3,h.2 _ H h2' (.refl H) h3⟩)))
   .refine .inr (.inr (.inr (.inr ⟨a,b,xs,ys,rfl,rfl,g1,g3,hx,by rw[<- hl,<- hl'];exact h.1,λ hy=>?_,λ hy p hp=>?_⟩)))
    .subst hy;have:es=[]:=by cases es <;> simp_all
     subst this;refine h.2 _ H ?_ (.refl H) h3;rw[List.append_nil];exact h1'
    .refine h.2 _ _ ?_ (.new hp _) (h3.new hp);simp only[zk];exact⟨p,_,rfl,ym.of xa,zv.ext (.new hp _) _ (g2.append g4)⟩
  | zl=>exact h.elim
  | bl _=>exact h.elim
  | int _=>exact h.elim
  | str _=>exact h.elim
  | xb _=>exact h.elim
  | ref _=>exact h.elim
 | xb ds=>exact lst (λ _=>nofun) h
 | ref q=>exact lst (λ _=>nofun) h
theorem wb (ha:PD X a ta) (hb:PD X b tb):PD X (.BinOp a .Add b pos) (yD uT ta tb):=o3 (Sy.or (Sv.or (Su.or (Sq.or Ss)))) uT.fits uT.mo ha hb
theorem u5.mo {g:List Bool->Bool}:uC (u5 g):=λ ds S Q Q' hq h=>by
 unfold u5 at h ⊢;split at h
 .exact h.elim
 .obtain⟨bs,h1,h2⟩:=h;exact⟨bs,h1,hq _ _ h2⟩
 .exact h.elim
theorem u5.fits {g:List Bool->Bool}:tW K (u5 g) (λ xs H Q=>∃ p,∃ bs:List Bool,xs=[.ref p]/\yf K H p (bs.map V.bl)/\Q (.bl (g bs)) H):=λ xs ds H S Q h0 h2 h=>by
 unfold u5 at h;split at h
 .exact h.elim
 .rename_i d hn;obtain⟨x,hx,h1⟩:=h0.one;subst hx;obtain⟨bs,e,h⟩:=h;obtain⟨a,ys,rfl,g1,g2⟩:=qa h1 h2 e (λ ts z=>hn ts z);rw[g2.bools] at g1;exact⟨a,bs,rfl,g1,h _ H (by simp only[zk]) (.refl H) h2⟩
 .exact h.elim
theorem gH (hm:X.mg "all"=none) (ha:wH X (e::es) tA) (hc:X.calm=true:=by rfl) (hg:Gl X "all":=by rfl) (he:starEach (e::es) X.env=(false,eval e X.env)::starEach es X.env:=by rfl) (hpl:(backTo pos (starEach es X.env)).any (·.1)=false:=by rfl):PD X (.Call (.Name "all" p) (e::es) [] pos) (wy (u5 λ bs=>bs.all id) tA):=
 sg (rj (OU hc) hg hm boot_all ha.pa (by decide) (by decide) he hpl) u5.mo u5.fits ha.mo
theorem TQ (hm:X.mg "any"=none) (ha:wH X (e::es) tA) (hc:X.calm=true:=by rfl) (hg:Gl X "any":=by rfl) (he:starEach (e::es) X.env=(false,eval e X.env)::starEach es X.env:=by rfl) (hpl:(backTo pos (starEach es X.env)).any (·.1)=false:=by rfl):PD X (.Call (.Name "any" p) (e::es) [] pos) (wy (u5 λ bs=>bs.any id) tA):=
 sg (rj (OT hc) hg hm boot_any ha.pa (by decide) (by decide) he hpl) u5.mo u5.fits ha.mo
theorem Zk {H:Hp}{d:D}{v:V}(r:zk K H d v):decide (v=.zl)=oH d:=by
 cases d with
 | zl=>simp only[zk] at r;subst r;rfl
 | bl _=>simp only[zk] at r;subst r;rfl
 | int _=>simp only[zk] at r;subst r;rfl
 | str _=>simp only[zk] at r;subst r;rfl
 | tup _=>simp only[zk] at r;obtain⟨a,xs,rfl,_⟩:=r;rfl
 | xb _=>simp only[zk] at r;obtain⟨a,xs,rfl,_⟩:=r;rfl
 | ref _=>simp only[zk] at r;subst r;rfl
theorem m5 (ha:PD X a ta):PD X (.UnaryOp .USub a pos) (Ym ta):=by
 refine⟨fun δ S Q Q' hq h=>ha.mo δ S _ _ (λ x S1 z=>by
  cases x <;> first
   | exact hq _ _ z
   | exact z) h,PE.imp (UQ WB ha.pe) fun σ H Q hu=>?_⟩
 obtain⟨δ,S,r1,r2,h⟩:=hu;refine yd.go ha.mo r1 r2 h λ x S1 v H1 h1 q1 e1 p1=>?_;cases x with
 | int i=>simp only[zk] at q1;exact⟨i,q1,h1 _ H1 (by simp only[zk]) e1 p1⟩
 | zl=>exact h1.elim
 | bl _=>exact h1.elim
 | str _=>exact h1.elim
 | tup _=>exact h1.elim
 | xb _=>exact h1.elim
 | ref _=>exact h1.elim
section
variable {N':List Str}{pick:List (Option Nat)}{scope:Scope}{tg elt iter:Expr}{ifs:List Expr}{ti:vL}{g:xO}{tcc:yZ}
theorem rG.mo (hi:jS ti):y6 (rG pick ti g tcc te):=fun δ S Q Q' hq z=>hi δ S _ _ (λ I S1 ⟨h1,h2,h3⟩=>⟨h1,h2,λ p hp=>by
 obtain⟨W,w0,w1,w2,w3⟩:=h3 p hp;exact⟨W,w0,w1,w2,λ S2 acc a b c=>hq _ _ (w3 S2 acc a b c)⟩⟩) z
theorem cx (hi:jS ti) (hg:lH g) (hc:v8 tcc) (he:y6 te) {σ:St}{H:Hp}{Q:VK}(hu:yd K (rG pick ti g tcc te) σ H Q):iz pick (vn K ti) (nU K g) (vg K tcc) (yd K te) σ H Q:=by
 obtain⟨δ,S,r1,r2,z⟩:=hu;refine⟨δ,S,r1,r2,hi δ S _ _ (λ I S1 hF J H1 e1 p1 rep D hD=>?_) z⟩;obtain⟨hlen,hk,hF⟩:=hF;have hS1:S1 D=none:=p1.none hD;obtain⟨W,w0,wm,wstep,wfin⟩:=hF D hS1;refine⟨λ i m σ H2=>m=I.items.length-i/\i<=I.items.length/\Ext H1 H2/\xp K H2 (uK pick δ) σ/\∃ S2 acc,z_ K H2 S2/\Sx S1 S2/\S2 D=some (.lst acc)/\acc.length<=i/\W i S2 acc,⟨_,rfl,Nat.zero_le _,.new hD _,((r1.ext e1).pick pick).ext (.new hD _),ups S1 D (.lst []),[],?_,.new hS1 _,rV,Nat.le_refl _,?_⟩,?_⟩
 .exact p1.ups (.new hD _) ⟨[],xa,.nil⟩
 .exact wm 0 S1 _ [] (λ b o hb q=>by rw[sY hb];exact q) w0
 rintro i m σ2 H2 ⟨rfl,hi',x2,q1,S2,acc,q2,sx,hS2,hacc,hW⟩;obtain⟨g1,g2⟩:=rep i H2 S2 x2 q2 (hk S2 sx);by_cases hl:i<I.items.length
 .have hd:I.items[i]?=some I.items[i]:=by simp[hl]
  obtain⟨go,yl⟩:=g1 _ hd;refine .inr ⟨go,λ x H3 hy=>?_⟩;obtain⟨x3,p3,d3⟩:=yl x H3 hy;refine⟨_,_,S2,d3,q1.ext x3,p3,hg _ _ S2 _ _ (fun δ4 S4 z4 σ4 H4 a1 a2 a3=>?_) (wstep i _ S2 acc hd sx hS2 hW)⟩;obtain⟨hle,z4⟩:=z4;refine vg.go hc a1 a3 z4 λ b S5 H5 z5 x5 p5=>vH (λ z5=>?_) (λ z5=>?_) z5
  .refine yd.go he (a1.ext x5) p5 z5 λ y S6 v H6 z6 q6 x6 p6=>?_;obtain⟨s6,hW6⟩:=z6;obtain⟨ys,h6,r6⟩:=p6 _ _ (s6 _ _ hS2);have e6:Ext H6 (upd H6 D (.lst (ys++[v]))):=.lst h6 _;have hlen2:ys.length<=i:=by rw[<- r6.length];exact hacc
   refine⟨ys,I.items.length-(i+1),h6,by omega,by omega,rfl,hl,((((x2.trans x3).trans a2).trans x5).trans x6).trans e6,hle.rep ((a1.ext (x5.trans x6)).ext e6),ups S6 D (.lst (acc++[y])),acc++[y],?_,λ b o hb=>?_,rV,by simp;omega,?_⟩
   .exact p6.ups e6 ⟨_,xa,zv.ext e6 _ (r6.snoc q6)⟩
   .rw[sY (by intro q;subst q;rw[hS1] at hb;cases hb)];exact s6 _ _ (sx _ _ hb)
   .exact wm _ S6 _ _ (λ b o hb q=>by rw[sY hb];exact q) hW6
  .obtain⟨s5,hW5⟩:=z5;exact⟨I.items.length-(i+1),by omega,rfl,hl,((x2.trans x3).trans a2).trans x5,hle.rep (a1.ext x5),S5,acc,p5,sx.trans s5,s5 _ _ hS2,by omega,hW5⟩
 .have e:i=I.items.length:=by omega
  subst e;exact .inl ⟨g2 (Nat.le_refl _),wfin S2 acc sx hS2 hW _ H2 (by simp only[zk]) (e1.trans x2) q2⟩
theorem t9 (Sc:pS X N' pick scope) (hc:X.calm=true) (hi:pP X tg iter ti) (hg:∀ cl C s H fp,rL (xw X N' scope cl C s H fp) tg g) (hf:∀ cl C s H fp,jM (xw X N' scope cl C s H fp) ifs tcc) (he:∀ cl C s H fp,PD (xw X N' scope cl C s H fp) elt te)
  (hs:∀ x,foldedSetIterable iter X.env x=pure x:=by intro _;rfl):
  PD X (.ListComp elt [⟨tg,iter,ifs,0⟩] scope pos) (rG pick ti g tcc te):=
 ⟨rG.mo hi.mo,λ pins s σ H Q I hu=>U_ (g:=nU X.K g) (tc:=vg X.K tcc) (te:=yd X.K te) Sc hc hi.pi (λ cl C s H fp=>(hg cl C s H fp).pg) (λ cl C s H fp=>(hf cl C s H fp).pf) (λ cl C s H fp=>(he cl C s H fp).pe) hs pins s σ H Q I (cx hi.mo (hg [] 0 s H []).mo (hf [] 0 s H []).mo (he [] 0 s H []).mo hu)⟩
theorem mz {i:Nat}{y:Str}{py spos:Pos}(Sc:pS X N' pick scope) (hc:X.calm=true) (hi:pP X tg iter ti) (hg:∀ cl C s H fp,rL (xw X N' scope cl C s H fp) tg g) (hf:∀ cl C s H fp,jM (xw X N' scope cl C s H fp) ifs tcc) (he:∀ cl C s H fp,PD (xw X N' scope cl C s H fp) elt te)
  (hN:X.N.Nodup) (hy:X.N[i]?=some y) (hx:Loc X.env.scope y)
  (hsw:swapsWith (.ListComp elt [⟨tg,iter,ifs,0⟩] scope pos) (some (.Name y py)) spos.line X.env=pure true:=by rfl)
  (hfn:X.fn y=true\/X.env.scope.names.lookup y=some .local:=by first | exact .inl rfl | exact .inr rfl | assumption)
  (hs:∀ x,foldedSetIterable iter X.env x=pure x:=by intro _;rfl):
  ud X (.Assign [.Name y py] (.ListComp elt [⟨tg,iter,ifs,0⟩] scope pos) spos) (v_ (rG pick ti g tcc te) (hName i)):=by
 refine⟨v_.mo (rG.mo hi.mo) λ _ _ _ _ _ hq z=>hq _ _ z,λ pins s σ H D I hu=>Ux (g:=nU X.K g) (tc:=vg X.K tcc) (te:=yd X.K te) Sc hc hi.pi (λ cl C s H fp=>(hg cl C s H fp).pg) (λ cl C s H fp=>(hf cl C s H fp).pf) (λ cl C s H fp=>(he cl C s H fp).pe) hN hy hx hsw hfn hs pins s σ H D I ?_⟩;obtain⟨δ,S,r1,r2,z⟩:=hu;refine cx hi.mo (hg [] 0 s H []).mo (hf [] 0 s H []).mo (he [] 0 s H []).mo ⟨δ,S,r1,r2,rG.mo hi.mo δ S _ _ (λ x S1 z v H1 q1 e1 p1=>?_) z⟩;exact z _ H1 ((r1.ext e1).set i q1) e1 p1
end
end
section
variable {P:Program}{w:World}{K:PySem.W.Frag}{mg:Str->Option Value}{base:Heap}{f:Addr}{fd:FuncData}
theorem ZE {R:Rk} [Lo R] {x:Str}{st:Stmt}{N ps:List Str}{k n:Nat}{g:Sm}(F:tV K x x st f fd) (Sc:yr N ps (zL st)) (hn:n=ps.length)
  (hbody:∀ (cdv:Value) (A:Around) (outer:List Env) (s:Shared) (H:Hp) (E:XK),yS k (A.deeper (envOfC x (zL st) s.heap.objs.size f cdv))->
   ∃ t,tq (sJ uh P w K mg base N x (zL st) f cdv A outer s H E).qj (vY st) t/\xy R g t):tw P w K mg base uh (k+1) f fd ps (sZ K (yg R (yn N n g))):=
 Pa F Sc (λ ds S Q h=>by rw[h.len,hn]) λ cdv A outer s H E hr=>by
  obtain⟨t,h1,h2⟩:=hbody cdv A outer s H E hr;exact⟨t,h1,λ ds S Q h=>O_ h2 h⟩
theorem Pm {R:Rk} [Lo R] {x:Str}{st:Stmt}{N ps:List Str}{k n:Nat}{g:Sm}(F:tV K x x st f fd) (hm:mg x=some (.ref f)) (Sc:yr N ps (zL st)) (hn:n=ps.length)
  (hb:∀ (kV doc pm:Value) (an:Option Addr) (cdv ct:Value) (us:List Value),us.length=ps.length->bindArgs (PySem.W.fnOf x x (rF st) (vY st) (zL st) .none kV doc pm an cdv ct) ⟨us,[]⟩=pure (ps.zip us))
  (hbody:∀ (cdv:Value) (A:Around) (outer:List Env) (s:Shared) (H:Hp) (E:XK),yS k (A.deeper (envOfC x (zL st) s.heap.objs.size f cdv))->
   ∃ t,tq (sJ uh P w K mg base N x (zL st) f cdv A outer s H E).qj (vY st) t/\xy R g t):FD P w K mg base x (k+1) ps (yg R (yn N n g)):=
 ⟨⟨f,fd,ZE F Sc hn hbody,hm,F.kp,F.binds hb⟩,yg.mo⟩
theorem Qs {R:Rk} [Sr R] {F:List T->Option T}(hF:∀ ns:List Int,ns.length<=63->F [.lst (ns.map T.int)]=some (.bl true)) {H:Hp}{a:Addr}{ns:List Int}{E:XK}(hO:jN H) (hS:yf K H a (ns.map V.int)) (hl:ns.length<=63):sZ K (yg R F) [.ref a] H (λ v _=>v=.bl true) E:=by
 have hFz:nh K H a (ns.map V.int):=by
  rcases hS with (h | h) | h
  .rcases hO a with z | ⟨o,xs,z⟩
   .rw[h] at z;cases z
   .rw[h] at z;cases z
  .exact .inl h
  .exact .inr h
 refine⟨[.xb (ns.map D.int)],λ _=>none,.cons ?_ .nil,(λ a o z=>nomatch z),λ _=>False,[.lst (ns.map T.int)],.bl true,nofun,.cons ?_ .nil,hF ns hl,λ d S' s r v H' rv _ _=>?_⟩
 .simp only[zk];exact⟨a,_,rfl,hFz,zv.gM ns⟩
 .simp only[Sn];exact⟨_,.inl ⟨rfl,Sz ns⟩,rg.mpr rfl⟩
 .have:=Sr.sn r;simp only[Sn] at this;subst this;simpa only [zk] using rv
end
end L5
namespace ST
open PySem PySem.SetTable
def tU (xs:List Nat):Prop:=xs.Pairwise (· < ·)
theorem fK {xs:Array Nat}{m d:Nat}(h:m<xs.size):xs.getD m d=xs[m]:=by simp[Array.getD,h]
theorem eG (xs:Array Nat) (j:Nat) (hr:tU xs.toList):∀ (f lo hi:Nat),hi-lo<=f->lo<=hi->hi<=xs.size->(∀ i (h:i<xs.size),i<lo->xs[i]<j)->(∀ i (h:i<xs.size),hi<=i->j<=xs[i])->
  below.go xs j f lo hi<=xs.size/\(∀ i (h:i<xs.size),i<below.go xs j f lo hi->xs[i]<j)/\∀ i (h:i<xs.size),below.go xs j f lo hi<=i->j<=xs[i]
 | 0,lo,hi,h1,h2,h3,h4,h5=>by
  unfold below.go;have:lo=hi:=by omega
  subst this;exact⟨h3,h4,h5⟩
 | f+1,lo,hi,h1,h2,h3,h4,h5=>by
  unfold below.go;have vt:∀ i k (hi:i<xs.size) (hk:k<xs.size),i<=k->xs[i]<=xs[k]:=λ i k hi hk hik=>by
   rcases Nat.lt_or_ge i k with q | q
   .have r:=List.pairwise_iff_getElem.mp hr i k (by simpa using hi) (by simpa using hk) q;rw[Array.getElem_toList,Array.getElem_toList] at r;exact Nat.le_of_lt r
   .have:i=k:=by omega
    subst this;exact Nat.le_refl _
  by_cases hl:lo<hi
  .rw[if_pos hl];dsimp only;have hm:(lo+hi)/2<xs.size:=by omega
   rw[fK hm];by_cases c:xs[(lo+hi)/2]<j
   .rw[if_pos c];refine eG xs j hr f _ hi (by omega) (by omega) h3 (λ i hi' hlt=>?_) h5;have:=vt i ((lo+hi)/2) hi' hm (by omega);omega
   .rw[if_neg c];refine eG xs j hr f lo _ (by omega) (by omega) (by omega) h4 (λ i hi' hge=>?_);have:=vt ((lo+hi)/2) i hm hi' hge;omega
  .rw[if_neg hl];have:lo=hi:=by omega
   subst this;exact⟨h3,h4,h5⟩
theorem jA {xs:Array Nat}{j:Nat}(hr:tU xs.toList):below xs j<=xs.size/\(∀ i (h:i<xs.size),i<below xs j->xs[i]<j)/\∀ i (h:i<xs.size),below xs j<=i->j<=xs[i]:=
 eG xs j hr xs.size 0 xs.size (by omega) (by omega) (Nat.le_refl _) (λ i h q=>by omega) (λ i h q=>by omega)
theorem below_at {xs:Array Nat}{j i:Nat}(hr:tU xs.toList) (h:xs[i]?=some j):below xs j=i:=by
 obtain⟨h1,h2,h3⟩:=jA (j:=j) hr;obtain⟨hi,e⟩:=Array.getElem?_eq_some_iff.mp h;have a:¬ i<below xs j:=λ q=>by have:=h2 i hi q;omega
 have b:¬ below xs j<i:=λ q=>by
  have:=h3 (below xs j) (by omega) (Nat.le_refl _);have r:=List.pairwise_iff_getElem.mp hr (below xs j) i (by simp;omega) (by simpa using hi) q;simp at r;omega
 omega
theorem Nd {xs:Array Nat}{j:Nat}(hr:tU xs.toList):(xs[below xs j]?=some j)↔j∈xs.toList:=by
 constructor
 .intro h;obtain⟨hi,e⟩:=Array.getElem?_eq_some_iff.mp h;rw[<- e];simp
 .intro h;obtain⟨i,hi,e⟩:=List.mem_iff_getElem.mp h;have hx:xs[i]?=some j:=by
   simp at hi;simp[hi] at e ⊢;exact e
  rw[below_at hr hx];exact hx
noncomputable def tf (M:Nat) (p:Probe):Probe:=
 if p.more>0 then { p with j:=p.j+1,more:=p.more-1 } else
 let (i,perturb):=leap M p.i p.perturb
 { p with j:=i,more:=runEnd M i-i,i,perturb }
theorem eO (t:SetTable) (p:Probe):t.advance p=tf t.mask p:=rfl
noncomputable def og (M i perturb:Nat):Probe:={ j:=i,more:=runEnd M i-i,i:=i,perturb:=perturb,dummy:=none }
noncomputable def way (M:Nat) (h:Int):Nat->Probe
 | 0=>og M (bits h%(M+1)) (bits h)
 | k+1=>tf M (way M h k)
theorem Nl (M:Nat) (p:Probe) (h:p.dummy=none):(tf M p).dummy=none:=by
 unfold tf;split
 .exact h
 .exact h
theorem ig (M:Nat) (h:Int):∀ k,(way M h k).dummy=none
 | 0=>rfl
 | k+1=>Nl M _ (ig M h k)
noncomputable def yo (M:Nat) (h:Int):Nat->Nat×Nat
 | 0=>(bits h%(M+1),bits h)
 | n+1=>leap M (yo M h n).1 (yo M h n).2
theorem gr (M i pt:Nat) (h:Int) (k:Nat) (hk:way M h k=og M i pt):∀ m,m<=runEnd M i-i->way M h (k+m)={ j:=i+m,more:=runEnd M i-i-m,i:=i,perturb:=pt,dummy:=none }
 | 0,_=>by rw[Nat.add_zero,hk];rfl
 | m+1,hm=>by
  have ih:=gr M i pt h k hk m (by omega);show tf M (way M h (k+m))=_;rw[ih];unfold tf;rw[if_pos (by show runEnd M i-i-m>0;omega)];simp only[Probe.mk.injEq];exact⟨by omega,by omega,trivial,trivial,trivial⟩
theorem VS (M i:Nat):runEnd M i-i<=9:=by unfold runEnd;split <;> omega
theorem bf (M:Nat) (h:Int) (n k:Nat) (hk:way M h k=og M (yo M h n).1 (yo M h n).2):way M h (k+(runEnd M (yo M h n).1-(yo M h n).1)+1)=og M (yo M h (n+1)).1 (yo M h (n+1)).2:=by
 have:=gr M _ _ h k hk _ (Nat.le_refl _);show tf M (way M h (k+_))=_;rw[this];unfold tf;rw[if_neg (by show ¬ _-_-(_-_)>0;omega)];rfl
theorem bg (M:Nat) (h:Int):∀ n,∃ k,k<=10*n/\way M h k=og M (yo M h n).1 (yo M h n).2
 | 0=>⟨0,by omega,rfl⟩
 | n+1=>by
  obtain⟨k,h1,h2⟩:=bg M h n;have:=VS M (yo M h n).1;exact⟨_,by omega,bf M h n k h2⟩
theorem Nb (h:Int):bits h<2 ^ 64:=by
 unfold bits;have h1:=Int.emod_nonneg h (show (2 ^ 64:Int)≠0 by decide);have h2:=Int.emod_lt_of_pos h (show (0:Int)<2 ^ 64 by decide);omega
theorem bK (M:Nat) (h:Int):∀ n,(yo M h n).2*32 ^ n<=bits h
 | 0=>by simp[yo]
 | n+1=>by
  have ih:=bK M h n;show ((yo M h n).2/32)*32 ^ (n+1)<=_;have:(yo M h n).2/32*32<=(yo M h n).2:=Nat.div_mul_le_self _ _
  calc (yo M h n).2/32*32 ^ (n+1)=((yo M h n).2/32*32)*32 ^ n:=by rw[Nat.pow_succ,Nat.mul_comm (32 ^ n) 32,Nat.mul_assoc]
   _<=(yo M h n).2*32 ^ n:=Nat.mul_le_mul_right _ this
   _<=_:=ih
theorem UO (M:Nat) (h:Int) (n:Nat) (hn:13<=n):(yo M h n).2=0:=by
 rcases Nat.eq_zero_or_pos (yo M h n).2 with q | q
 .exact q
 .have h1:=bK M h n;have h2:=Nb h;have h3:32 ^ 13<=32 ^ n:=Nat.pow_le_pow_right (by decide) hn;have h4:1*32 ^ n<=(yo M h n).2*32 ^ n:=Nat.mul_le_mul_right _ q;have h5:(2:Nat) ^ 64<32 ^ 13:=by decide
  omega
noncomputable def rp (M:Nat) (i:Nat):Nat->Nat
 | 0=>i
 | n+1=>(rp M i n*5+1)%(M+1)
theorem aZ (M:Nat) (h:Int):∀ n,(yo M h (13+n)).1=rp M (yo M h 13).1 n
 | 0=>rfl
 | n+1=>by
  have ih:=aZ M h n;have hz:=UO M h (13+n) (by omega);show ((yo M h (13+n)).1*5+1+(yo M h (13+n)).2/32)%(M+1)=_;rw[hz,ih];rfl
theorem mB (M i:Nat):∀ a b,rp M i (a+b)=rp M (rp M i a) b
 | a,0=>rfl
 | a,b+1=>by
  show (rp M i (a+b)*5+1)%(M+1)=_;rw[mB M i a b];rfl
noncomputable def m9 (M:Nat):Nat->Nat->List Nat
 | 0,_=>[]
 | n+1,i=>i::m9 M n ((i*5+1)%(M+1))
theorem gI (M:Nat):∀ n i x,x∈m9 M n i->∃ k,k<n/\rp M i k=x
 | 0,i,x,h=>by cases h
 | n+1,i,x,h=>by
  rcases List.mem_cons.mp h with e | e
  .exact⟨0,by omega,e.symm⟩
  .obtain⟨k,h1,h2⟩:=gI M n _ x e;exact⟨k+1,by omega,by rw[Nat.add_comm,mB];exact h2⟩
def uf (M:Nat):Prop:=M=7\/M=31\/M=127
theorem TV (M:Nat) (hM:uf M):(∀ e,e<=M->e∈m9 M (M+1) 0)/\rp M 0 (M+1)=0:=by
 have key:∀ M,((List.range (M+1)).all λ e=>(m9 M (M+1) 0).contains e)=true->∀ e,e<=M->e∈m9 M (M+1) 0:=λ M h e he=>by
  have:=List.all_eq_true.mp h e (List.mem_range.mpr (by omega));simpa using this
 rcases hM with rfl | rfl | rfl
 .exact⟨key 7 (by decide +kernel),by decide +kernel⟩
 .exact⟨key 31 (by decide +kernel),by decide +kernel⟩
 .exact⟨key 127 (by decide +kernel),by decide +kernel⟩
theorem TU (M:Nat) (hM:uf M) (i e:Nat) (hi:i<=M) (he:e<=M):∃ n,n<=M/\rp M i n=e:=by
 obtain⟨h1,h2⟩:=TV M hM;obtain⟨a,a1,a2⟩:=gI M _ _ _ (h1 i hi);obtain⟨b,b1,b2⟩:=gI M _ _ _ (h1 e he);rcases Nat.lt_or_ge b a with q | q
 .refine⟨M+1+b-a,by omega,?_⟩;rw[<- a2,<- mB,show a+(M+1+b-a)=(M+1)+b by omega,mB,h2,b2]
 .refine⟨b-a,by omega,?_⟩;rw[<- a2,<- mB,show a+(b-a)=b by omega,b2]
theorem Qk (M:Nat) (h:Int):∀ n,(yo M h n).1<=M
 | 0=>by have:=Nat.mod_lt (bits h) (show 0<M+1 by omega);show bits h%(M+1)<=M;omega
 | n+1=>by
  have:=Nat.mod_lt ((yo M h n).1*5+1+(yo M h n).2/32) (show 0<M+1 by omega);show (_%(M+1):Nat)<=M;omega
theorem a_ (M:Nat) (hM:uf M) (h:Int) (e:Nat) (he:e<=M):∃ n,n<M+14/\(yo M h n).1=e:=by
 obtain⟨n,h1,h2⟩:=TU M hM (yo M h 13).1 e (Qk M h 13) he;exact⟨13+n,by omega,by rw[aZ,h2]⟩
theorem W0 (M:Nat) (hM:uf M) (h:Int) (e:Nat) (he:e<=M):∃ k,k<10*(M+15)/\(way M h k).j=e:=by
 obtain⟨n,h1,h2⟩:=a_ M hM h e he;obtain⟨k,k1,k2⟩:=bg M h n;exact⟨k,by omega,by rw[k2];exact h2⟩
end ST
namespace ST
open PySem PySem.SetTable
theorem cn (M:Nat) (h:Int):∀ k,(way M h k).j+(way M h k).more<=M/\(way M h k).i<=M
 | 0=>by
  have h1:bits h%(M+1)<=M:=by have:=Nat.mod_lt (bits h) (show 0<M+1 by omega);omega
  refine⟨?_,h1⟩;show bits h%(M+1)+(runEnd M (bits h%(M+1))-bits h%(M+1))<=M;unfold runEnd;split <;> omega
 | k+1=>by
  obtain⟨h1,h2⟩:=cn M h k;show (tf M (way M h k)).j+(tf M (way M h k)).more<=M/\(tf M (way M h k)).i<=M;unfold tf;split
  .rename_i c;exact⟨by show (way M h k).j+1+((way M h k).more-1)<=M;omega,h2⟩
  .have h3:((way M h k).i*5+1+(way M h k).perturb/32)%(M+1)<=M:=by have:=Nat.mod_lt ((way M h k).i*5+1+(way M h k).perturb/32) (show 0<M+1 by omega);omega
   refine⟨?_,h3⟩;show _%(M+1)+(runEnd M (_%(M+1))-_%(M+1))<=M;unfold runEnd;split <;> omega
theorem ie (M:Nat) (h:Int) (k:Nat):(way M h k).j<=M:=by have:=(cn M h k).1;omega
structure Tab (t:SetTable) (hs:List Int):Prop where
 mask:uf t.mask
 qz:t.dummies=#[]
 len:t.place.size=hs.length
 vt:tU t.place.toList
 yu:∀ j∈t.place.toList,j<=t.mask
 ml:∀ (i:Nat) h j,hs[i]?=some h->t.place[i]?=some j->∃ k,(way t.mask h k).j=j/\∀ k'<k,(way t.mask h k').j∈t.place.toList
theorem Tab.live {t:SetTable}{hs:List Int}(T:Tab t hs) {i j:Nat}(h:t.place[i]?=some j):t.slot j=.live i:=by
 unfold SetTable.slot;dsimp only;rw[below_at T.vt h,if_pos (by rw[h];simp)]
theorem Tab.empty {t:SetTable}{hs:List Int}(T:Tab t hs) {j:Nat}(h:j∉t.place.toList):t.slot j=.empty:=by
 unfold SetTable.slot;dsimp only;have n1:¬ (t.place[below t.place j]? == some j)=true:=λ q=>h ((Nd T.vt).mp (by simpa using q));rw[if_neg n1,if_neg (by rw[T.qz];simp[has])]
theorem Tab.at {t:SetTable}{hs:List Int}(T:Tab t hs) {j:Nat}(h:j∈t.place.toList):∃ (i:Nat) (g:Int),t.place[i]?=some j/\hs[i]?=some g:=by
 obtain⟨i,hi,e⟩:=List.mem_iff_getElem.mp h;have hi':i<t.place.size:=by simpa using hi
 refine⟨i,hs[i]'(by rw[<- T.len];exact hi'),?_,by simp⟩;rw[Array.getElem?_eq_getElem hi'];rw[Array.getElem_toList] at e;rw[e]
theorem Z7 {t:SetTable}{hs:List Int}(T:Tab t hs) {hashAt:Nat->Int}(hA:∀ (i:Nat) g,hs[i]?=some g->hashAt i=g) (h:Int):∀ (f k:Nat),(∃ e,k<=e/\e<k+f/\(way t.mask h e).j∉t.place.toList)->
  ∃ k1,k<=k1/\(∀ m,k<=m->m<k1->∃ (i:Nat) (g:Int),t.place[i]?=some (way t.mask h m).j/\hs[i]?=some g/\g≠h)/\
   ((way t.mask h k1).j∉t.place.toList/\probe.go t hashAt h f (way t.mask h k)=some (.empty (way t.mask h k1).j none)\/
    ∃ i,t.place[i]?=some (way t.mask h k1).j/\hs[i]?=some h/\probe.go t hashAt h f (way t.mask h k)=some (.candidate (way t.mask h k1).j i (way t.mask h (k1+1))))
 | 0,k,⟨e,h1,h2,_⟩=>by omega
 | f+1,k,⟨e,h1,h2,h3⟩=>by
  by_cases hm:(way t.mask h k).j∈t.place.toList
  .obtain⟨i,g,p1,p2⟩:=T.at hm;by_cases hg:g=h
   .refine⟨k,Nat.le_refl _,λ m a b=>by omega,.inr ⟨i,p1,by rw[<- hg];exact p2,?_⟩⟩;unfold probe.go;rw[T.live p1];dsimp only;rw[hA i g p2,if_pos (by simp[hg]),eO];rfl
   .have hne:e≠k:=λ q=>by subst q;exact h3 hm
    obtain⟨k1,q1,q2,q3⟩:=Z7 T hA h f (k+1) ⟨e,by omega,by omega,h3⟩;have eq:probe.go t hashAt h (f+1) (way t.mask h k)=probe.go t hashAt h f (way t.mask h (k+1)):=by
     conv=>lhs;unfold probe.go
     rw[T.live p1];dsimp only;rw[hA i g p2,if_neg (by simp[hg]),eO];rfl
    rw[eq];refine⟨k1,by omega,λ m a b=>?_,q3⟩;rcases Nat.eq_or_lt_of_le a with w | w
    .subst w;exact⟨i,g,p1,p2,hg⟩
    .exact q2 m w b
  .refine⟨k,Nat.le_refl _,λ m a b=>by omega,.inl ⟨hm,?_⟩⟩;unfold probe.go;rw[T.empty hm,ig]
theorem aF {xs ys:List Nat}(hx:xs.Nodup) (h:∀ x∈xs,x∈ys):xs.length<=ys.length:=by
 induction xs generalizing ys with
 | nil=>simp
 | cons x xs ih=>
  have h1:=List.nodup_cons.mp hx;have hxy:=h x zMc;have:=ih h1.2 (ys:=ys.erase x) λ z hz=>by
   have hne:z≠x:=λ e=>h1.1 (e▸hz);exact (List.mem_erase_of_ne hne).mpr (h z (zMo _ hz))
  rw[List.length_erase_of_mem hxy] at this;have hp:=List.length_pos_of_mem hxy;simp only[List.length_cons];omega
theorem least {P:Nat->Prop}(k:Nat) (h:P k):∃ m,m<=k/\P m/\∀ m'<m,¬ P m':=by
 induction k using Nat.strongRecOn with
 | ind k ih=>
  rcases Classical.em (∃ m',m'<k/\P m') with ⟨m',h1,h2⟩ | q
  .obtain⟨m,g1,g2⟩:=ih m' h1 h2;exact⟨m,by omega,g2⟩
  .exact⟨k,Nat.le_refl _,h,λ m' hm hp=>q ⟨m',hm,hp⟩⟩
theorem Pd {xs:List Nat}{M:Nat}(h:xs.length<=M):∃ e,e<=M/\e∉xs:=by
 rcases Classical.em (∃ e,e<=M/\e∉xs) with q | q
 .exact q
 .have:=aF (xs:=List.range (M+1)) (ys:=xs) List.nodup_range λ e he=>by
   have:=List.mem_range.mp he;rcases Classical.em (e∈xs) with w | w
   .exact w
   .exact absurd ⟨e,by omega,w⟩ q
  simp at this;omega
def dJ (t:SetTable) (h:Int) (j:Nat):Prop:=j∉t.place.toList/\∃ k,(way t.mask h k).j=j/\∀ k'<k,(way t.mask h k').j∈t.place.toList
theorem Tab.first {t:SetTable}{hs:List Int}(T:Tab t hs) (hl:hs.length<=t.mask) (h:Int):∃ K,K<10*(t.mask+15)/\(way t.mask h K).j∉t.place.toList/\∀ k'<K,(way t.mask h k').j∈t.place.toList:=by
 obtain⟨e,e1,e2⟩:=Pd (xs:=t.place.toList) (M:=t.mask) (by rw[Array.length_toList,T.len];exact hl);obtain⟨k,k1,k2⟩:=W0 t.mask T.mask h e e1;obtain⟨K,q1,q2,q3⟩:=least (P:=λ n=>(way t.mask h n).j∉t.place.toList) k (by rw[k2];exact e2);exact⟨K,by omega,q2,λ k' hk=>Classical.not_not.mp (q3 k' hk)⟩
theorem VV {xs:List Nat}{j p:Nat}(h:tU xs) (h1:∀ x∈xs.take p,x<j) (h2:∀ x∈xs.drop p,j<x):tU (xs.take p++j::xs.drop p):=by
 refine List.pairwise_append.mpr ⟨h.sublist (List.take_sublist _ _),List.pairwise_cons.mpr ⟨h2,h.sublist (List.drop_sublist _ _)⟩,λ a ha b hb=>?_⟩;rcases List.mem_cons.mp hb with e | e
 .subst e;exact h1 a ha
 .have:=h1 a ha;have:=h2 b e;omega
theorem Zv {α:Type}{xs:List α}{p i:Nat}{x y:α}(hp:p<=xs.length) (h:(xs.take p++x::xs.drop p)[i]?=some y):(i=p/\y=x)\/(i<p/\xs[i]?=some y)\/(p<i/\xs[i-1]?=some y):=by
 have hl:(xs.take p).length=p:=by rw[List.length_take];omega
 rcases Nat.lt_trichotomy i p with q | q | q
 .rw[List.getElem?_append_left (by omega),List.getElem?_take,if_pos q] at h;exact .inr (.inl ⟨q,h⟩)
 .subst q;rw[List.getElem?_append_right (by omega),hl] at h;simp at h;exact .inl ⟨rfl,h.symm⟩
 .rw[List.getElem?_append_right (by omega),hl] at h;obtain⟨d,hd⟩:∃ d,i-p=d+1:=⟨i-p-1,by omega⟩
  rw[hd] at h;simp only[List.getElem?_cons_succ,List.getElem?_drop] at h;refine .inr (.inr ⟨q,?_⟩);rw[show i-1=p+d by omega];exact h
theorem Tab.put {t:SetTable}{hs:List Int}(T:Tab t hs) {h:Int}{j:Nat}(F:dJ t h j):
  (t.put j).2<=hs.length/\(t.put j).1={ t with place:=insertAt t.place (t.put j).2 j }/\Tab (t.put j).1 (hs.take (t.put j).2++h::hs.drop (t.put j).2):=by
 obtain⟨b1,b2,b3⟩:=jA (xs:=t.place) (j:=j) T.vt;obtain⟨fn,K,k1,k2⟩:=F;have e2:(t.put j).2=below t.place j:=rfl;have e1:(t.put j).1={ t with place:=insertAt t.place (t.put j).2 j }:=by
  show ({ t with place:=insertAt t.place (below t.place j) j,dummies:=_ }:SetTable)=_;rw[if_neg (by rw[T.qz];simp[has]),e2]
 have pl:(insertAt t.place (below t.place j) j).toList=t.place.toList.take (below t.place j)++j::t.place.toList.drop (below t.place j):=toList_insertAt _ _ _;have old:∀ x∈t.place.toList,x∈(insertAt t.place (below t.place j) j).toList:=λ x hx=>by
  rw[pl];have:=List.take_append_drop (below t.place j) t.place.toList;rw[<- this] at hx;rcases List.mem_append.mp hx with q | q
  .exact List.mem_append_left _ q
  .exact List.mem_append_right _ (zMo _ q)
 rw[e2] at e1 ⊢;refine⟨by rw[<- T.len];exact b1,e1,?_⟩;rw[e1];refine⟨T.mask,T.qz,?_,?_,?_,?_⟩
 .show (insertAt t.place (below t.place j) j).size=_;rw[<- Array.length_toList,pl];simp[T.len]
 .show tU (insertAt t.place (below t.place j) j).toList;rw[pl];refine VV T.vt (λ x hx=>?_) (λ x hx=>?_)
  .obtain⟨i,hi,e⟩:=List.mem_iff_getElem.mp hx;rw[List.length_take] at hi;rw[List.getElem_take,Array.getElem_toList] at e;rw[<- e];exact b2 i (by simp at hi;omega) (by omega)
  .obtain⟨i,hi,e⟩:=List.mem_iff_getElem.mp hx;rw[List.length_drop] at hi;rw[List.getElem_drop,Array.getElem_toList] at e;have h3:=b3 (below t.place j+i) (by simp at hi;omega) (by omega);have hm:x∈t.place.toList:=List.mem_of_mem_drop hx;have hne:x≠j:=λ q=>fn (q▸hm);omega
 .intro x hx;show x<=t.mask;have hx:x∈(insertAt t.place (below t.place j) j).toList:=hx;rw[pl] at hx;rcases List.mem_append.mp hx with q | q
  .exact T.yu x (List.mem_of_mem_take q)
  .rcases List.mem_cons.mp q with e | e
   .subst e;rw[<- k1];exact ie _ _ _
   .exact T.yu x (List.mem_of_mem_drop e)
 .intro i g x hg hx;show ∃ k,(way t.mask g k).j=x/\∀ k'<k,(way t.mask g k').j∈(insertAt t.place (below t.place j) j).toList;have hx:(insertAt t.place (below t.place j) j)[i]?=some x:=hx;rw[<- Array.getElem?_toList,pl] at hx;have hpl:below t.place j<=t.place.toList.length:=by simpa using b1
  have hpl':below t.place j<=hs.length:=by rw[<- T.len];exact b1
  rcases Zv hpl hx with ⟨c1,c2⟩ | ⟨c1,c2⟩ | ⟨c1,c2⟩ <;> rcases Zv hpl' hg with ⟨d1,d2⟩ | ⟨d1,d2⟩ | ⟨d1,d2⟩ <;> first
   | omega
   | (subst c2 d2;exact⟨K,k1,λ k' hk=>old _ (k2 k' hk)⟩)
   | (obtain⟨k,g1,g2⟩:=T.ml _ g x d2 (by rw[<- Array.getElem?_toList];exact c2)
      exact⟨k,g1,λ k' hk=>old _ (g2 k' hk)⟩)
end ST
namespace ST
open PySem PySem.SetTable
def qF (owner:Array (Option Nat)) (j:Nat):Prop:=∃ k,owner[j]?=some (some k)
theorem Pl {P:Nat->Bool}{n k:Nat}(h:(List.range n).find? P=some k):k<n/\P k=true/\∀ k'<k,P k'=false:=by
 obtain⟨h1,as,bs,h2,h3⟩:=List.find?_eq_some_iff_append.mp h;have hlen:as.length=k:=by
  have e:(List.range n)[as.length]?=some k:=by rw[h2];simp
  have:=(List.getElem?_eq_some_iff.mp e)
  obtain⟨q1,q2⟩:=this;rw[List.getElem_range] at q2;exact q2
 have hk:k<n:=by
  have:k∈List.range n:=by rw[h2];simp
  exact List.mem_range.mp this
 refine⟨hk,h1,λ k' hk'=>?_⟩;have:k'∈as:=by
  have e:(List.range n)[k']?=some k':=List.getElem?_range (by omega);rw[h2,List.getElem?_append_left (by omega)] at e;exact List.mem_of_getElem? e
 have:=h3 k' this;simpa using this
theorem getD_none {owner:Array (Option Nat)}{j:Nat}(h:((owner.getD j (some 0)).isNone)=true):owner[j]?=some none:=by
 unfold Array.getD at h;split at h
 .rename_i hj;have e:owner[j]=none:=by simpa using h
  rw[Array.getElem?_eq_getElem hj,e]
 .simp at h
theorem Z9 {owner:Array (Option Nat)}{j:Nat}(hj:j<owner.size) (h:((owner.getD j (some 0)).isNone)=false):qF owner j:=by
 unfold Array.getD at h;rw[dif_pos hj] at h;cases q:owner[j] with
 | none=>simp[q] at h
 | some k=>exact⟨k,by rw[Array.getElem?_eq_getElem hj,q]⟩
theorem ZD (M:Nat) (owner:Array (Option Nat)) (hsz:owner.size=M+1) (h:Int):∀ (fuel n kn:Nat),way M h kn=og M (yo M h n).1 (yo M h n).2->(∀ q<kn,qF owner (way M h q).j)->
  (∃ n',n<=n'/\n'<n+fuel/\owner[(yo M h n').1]?=some none)->
  ∃ j q,layClean.free M owner fuel (yo M h n).1 (yo M h n).2=some j/\(way M h q).j=j/\owner[j]?=some none/\∀ q'<q,qF owner (way M h q').j
 | 0,n,kn,_,_,⟨n',h1,h2,_⟩=>by omega
 | fuel+1,n,kn,hk,ho,⟨n',h1,h2,h3⟩=>by
  have hre:runEnd M (yo M h n).1+1-(yo M h n).1=runEnd M (yo M h n).1-(yo M h n).1+1:=by unfold runEnd;split <;> omega
  have hwalk:∀ m,m<=runEnd M (yo M h n).1-(yo M h n).1->(way M h (kn+m)).j=(yo M h n).1+m:=λ m hm=>by rw[gr M _ _ h kn hk m hm]
  unfold layClean.free;cases hf:(List.range (runEnd M (yo M h n).1+1-(yo M h n).1)).find? (λ k=>(owner.getD ((yo M h n).1+k) (some 0)).isNone) with
  | some k=>
   obtain⟨f1,f2,f3⟩:=Pl hf;refine⟨_,kn+k,rfl,hwalk k (by omega),getD_none f2,λ q' hq=>?_⟩;rcases Nat.lt_or_ge q' kn with w | w
   .exact ho q' w
   .have e:(way M h q').j=(yo M h n).1+(q'-kn):=by
     have:=hwalk (q'-kn) (by omega)
     rwa [show kn+(q'-kn)=q' by omega] at this
    have hle:=ie M h q';rw[e] at hle ⊢;exact Z9 (by omega) (f3 (q'-kn) (by omega))
  | none=>
   have f3:=List.find?_eq_none.mp hf;have occ:∀ m,m<=runEnd M (yo M h n).1-(yo M h n).1->qF owner ((yo M h n).1+m):=λ m hm=>by
    have hle:=ie M h (kn+m);rw[hwalk m hm] at hle;exact Z9 (by omega) (Bool.eq_false_iff.mpr (f3 m (List.mem_range.mpr (by omega))))
   have hne:n'≠n:=λ e=>by
    subst e;obtain⟨k,hk'⟩:=occ 0 (Nat.zero_le _);rw[Nat.add_zero] at hk';rw[hk'] at h3;cases h3
   dsimp only;obtain⟨j,q,r1,r2⟩:=ZD M owner hsz h fuel (n+1) _ (bf M h n kn hk) (λ q hq=>by
    rcases Nat.lt_or_ge q kn with w | w
    .exact ho q w
    .have e:=hwalk (q-kn) (by omega);rw[show kn+(q-kn)=q by omega] at e;rw[e];exact occ _ (by omega)) ⟨n',by omega,by omega,h3⟩
   exact⟨j,q,r1,r2⟩
structure Lay (M:Nat) (hs:List Int) (owner:Array (Option Nat)) (m:Nat):Prop where
 size:owner.size=M+1
 below:∀ (j k:Nat),owner[j]?=some (some k)->k<m
 each:∀ (k:Nat),k<m->∃ (j:Nat),owner[j]?=some (some k)
 once:∀ (i j k:Nat),owner[i]?=some (some k)->owner[j]?=some (some k)->i=j
 ml:∀ (j k:Nat) h,owner[j]?=some (some k)->hs[k]?=some h->∃ q,(way M h q).j=j/\∀ q'<q,qF owner (way M h q').j
theorem Lay.none {M:Nat}(hM:uf M) {hs:List Int}{owner:Array (Option Nat)}{m:Nat}(L:Lay M hs owner m) (hm:m<=M):∃ (e:Nat),e<=M/\owner[e]?=some Option.none:=by
 rcases Classical.em (∃ (e:Nat),e<=M/\owner[e]?=some Option.none) with q | q
 .exact q
 .exfalso;have hall:∀ (e:Nat),e<=M->∃ (k:Nat),owner[e]?=some (some k):=λ e he=>by
   have hlt:e<owner.size:=by rw[L.size];omega
   cases w:owner[e] with
   | none=>exact absurd ⟨e,he,by rw[Array.getElem?_eq_getElem hlt,w]⟩ q
   | some k=>exact⟨k,by rw[Array.getElem?_eq_getElem hlt,w]⟩
  have:=aF (xs:=(List.range (M+1)).map λ e=>((owner[e]?).getD Option.none).getD 0) (ys:=List.range m) (by
   refine List.pairwise_map.mpr (List.Pairwise.imp_of_mem ?_ List.nodup_range);intro a b ha hb hne e;refine hne ?_;obtain⟨k,hk⟩:=hall a (by have:=List.mem_range.mp ha;omega);obtain⟨k',hk'⟩:=hall b (by have:=List.mem_range.mp hb;omega);rw[hk,hk'] at e;simp at e;subst e;exact L.once a b k hk hk') (λ x hx=>by
   obtain⟨e,he,rfl⟩:=List.mem_map.mp hx;obtain⟨k,hk⟩:=hall e (by have:=List.mem_range.mp he;omega);rw[hk];exact List.mem_range.mpr (L.below e k hk))
  simp at this;omega
theorem kl {α:Type}{xs:Array α}{j i:Nat}{a b:α}(h:(xs.setIfInBounds j a)[i]?=some b):(i=j/\b=a)\/(i≠j/\xs[i]?=some b):=by
 rw[Array.getElem?_setIfInBounds] at h;by_cases e:j=i
 .subst e;rw[if_pos rfl] at h;split at h
  .cases h;exact .inl ⟨rfl,rfl⟩
  .cases h
 .rw[if_neg e] at h;exact .inr ⟨λ q=>e q.symm,h⟩
theorem Lay.step {M:Nat}(hM:uf M) {hs:List Int}{owner:Array (Option Nat)}{m:Nat}{h:Int}(L:Lay M hs owner m) (hm:m<=M) (hh:hs[m]?=some h):
  ∃ j,layClean.free M owner (turns M) (bits h%(M+1)) (bits h)=some j/\Lay M hs (owner.setIfInBounds j (some m)) (m+1):=by
 obtain⟨e,e1,e2⟩:=L.none hM hm;obtain⟨n',n1,n2⟩:=a_ M hM h e e1;obtain⟨j,q,r1,r2,r3,r4⟩:=ZD M owner L.size h (turns M) 0 0 rfl (λ q hq=>by omega) ⟨n',by omega,by unfold turns;omega,by rw[n2];exact e2⟩;have hj:j<owner.size:=(Array.getElem?_eq_some_iff.mp r3).1;have keep:∀ x,qF owner x->qF (owner.setIfInBounds j (some m)) x:=λ x ⟨k,hk⟩=>by
  have hne:j≠x:=λ w=>by subst w;rw[r3] at hk;cases hk
  exact⟨k,by rw[Array.getElem?_setIfInBounds,if_neg hne];exact hk⟩
 have self:(owner.setIfInBounds j (some m))[j]?=some (some m):=by rw[Array.getElem?_setIfInBounds,if_pos rfl,if_pos hj]
 refine⟨j,r1,⟨by simp[L.size],λ x k hx=>?_,λ k hk=>?_,λ x y k hx hy=>?_,λ x k g hx hg=>?_⟩⟩
 .rcases kl hx with ⟨_,w⟩ | ⟨_,w⟩
  .cases w;omega
  .have:=L.below x k w;omega
 .rcases Nat.lt_or_ge k m with w | w
  .obtain⟨x,hx⟩:=L.each k w;have hne:j≠x:=λ w=>by subst w;rw[r3] at hx;cases hx
   exact⟨x,by rw[Array.getElem?_setIfInBounds,if_neg hne];exact hx⟩
  .have:k=m:=by omega
   subst this;exact⟨j,self⟩
 .rcases kl hx with ⟨w1,w⟩ | ⟨w1,w⟩ <;> rcases kl hy with ⟨v1,v⟩ | ⟨v1,v⟩
  .omega
  .cases w;have:=L.below y _ v;omega
  .cases v;have:=L.below x _ w;omega
  .exact L.once x y k w v
 .rcases kl hx with ⟨w1,w⟩ | ⟨w1,w⟩
  .cases w;rw[hh] at hg;cases hg;subst w1;exact⟨q,r2,λ q' hq=>keep _ (r4 q' hq)⟩
  .obtain⟨q,g1,g2⟩:=L.ml x k g w hg;exact⟨q,g1,λ q' hq=>keep _ (g2 q' hq)⟩
theorem Zc {M:Nat}(hM:uf M) {hs:List Int}(hl:hs.length<=M+1):∀ (rest:List Int) (owner:Array (Option Nat)) (m:Nat),m<=hs.length->hs.drop m=rest->Lay M hs owner m->
  ∃ owner',rest.foldl (λ acc h=>do
   let (owner,k) <- acc
   let j <- layClean.free M owner (turns M) (bits h%(M+1)) (bits h)
   pure (owner.setIfInBounds j (some k),k+1)) (some (owner,m))=some (owner',hs.length)/\Lay M hs owner' hs.length
 | [],owner,m,hl2,hd,L=>by
  have hm:hs.length<=m:=List.drop_eq_nil_iff.mp hd;have e:m=hs.length:=by omega
  subst e;exact⟨owner,rfl,L⟩
 | h::rest,owner,m,hl2,hd,L=>by
  have hm:hs[m]?=some h:=by
   have:=congrArg (λ l=>l[0]?) hd;simpa using this
  have hlt:m<hs.length:=(List.getElem?_eq_some_iff.mp hm).1;obtain⟨j,j1,j2⟩:=L.step hM (by omega) hm;have hd':hs.drop (m+1)=rest:=by
   have:=congrArg List.tail hd;simpa using this
  obtain⟨o',h1,h2⟩:=Zc hM hl rest _ (m+1) (by omega) hd' j2;refine⟨o',?_,h2⟩;rw[List.foldl_cons,<- h1];show _=_;congr 1;show ((layClean.free M owner (turns M) (bits h%(M+1)) (bits h)).bind λ j=>some (owner.setIfInBounds j (some m),m+1))=_;rw[j1];rfl
theorem Qo (M:Nat) (hs:List Int):Lay M hs (Array.replicate (M+1) Option.none) 0:=by
 have no:∀ (j k:Nat),(Array.replicate (M+1) (Option.none:Option Nat))[j]?≠some (some k):=λ j k h=>by
  rw[Array.getElem?_replicate] at h;split at h <;> cases h
 exact⟨by simp,λ j k h=>absurd h (no j k),λ k hk=>by omega,λ i j k h=>absurd h (no i k),λ j k h e=>absurd e (no j k)⟩
theorem Qp {M:Nat}(hM:uf M) (hashes:Array Int) (hl:hashes.size<=M+1):∃ owner,layClean M hashes=some owner/\Lay M hashes.toList owner hashes.size:=by
 obtain⟨o,h1,h2⟩:=Zc hM (hs:=hashes.toList) (by simpa using hl) hashes.toList _ 0 (Nat.zero_le _) (by simp) (Qo M _);refine⟨o,?_,by simpa using h2⟩;unfold layClean;rw[<- Array.foldl_toList,h1];rfl
noncomputable def lives (M:Nat) (owner:Array (Option Nat)):List (Nat×Nat):=(List.range (M+1)).filterMap λ j=>(owner.getD j Option.none).map (j,·)
theorem getD_some {owner:Array (Option Nat)}{j k:Nat}:owner.getD j Option.none=some k↔owner[j]?=some (some k):=by
 unfold Array.getD;split
 .rename_i h;rw[Array.getElem?_eq_getElem h];simp
 .rename_i h;rw[Array.getElem?_eq_none (by omega)];simp
theorem pd {M:Nat}{owner:Array (Option Nat)}(hs:owner.size=M+1) {j k:Nat}:(j,k)∈lives M owner↔owner[j]?=some (some k):=by
 unfold lives;rw[List.mem_filterMap];constructor
 .rintro⟨x,hx,e⟩;obtain⟨y,e1,e2⟩:=zOm e;cases e2;exact getD_some.mp e1
 .intro h;have hj:=(Array.getElem?_eq_some_iff.mp h).1;exact⟨j,List.mem_range.mpr (by omega),by rw[getD_some.mpr h];rfl⟩
theorem aU (M:Nat) (owner:Array (Option Nat)):(lives M owner).Pairwise λ a b=>a.1<b.1:=by
 unfold lives;rw[List.pairwise_filterMap];refine List.Pairwise.imp ?_ List.pairwise_lt_range;intro a b hab x hx y hy;obtain⟨_,_,e1⟩:=zOm hx;obtain⟨_,_,e2⟩:=zOm hy;subst e1 e2;exact hab
theorem Zd {M:Nat}(hM:uf M) (finger moves:Nat) (led plain:Bool) (hashes:Array Int) (hl:hashes.size<=M+1):
  ∃ t order,laid M finger moves led plain hashes=some (t,order)/\t.mask=M/\t.finger=finger/\t.led=led/\t.plain=plain/\order.toList.Perm (List.range hashes.size)/\Tab t (order.toList.map λ k=>hashes.toList.getD k 0):=by
 obtain⟨owner,h1,L⟩:=Qp hM hashes hl;refine⟨_,_,by unfold laid;rw[h1];rfl,rfl,rfl,rfl,rfl,?_,?_⟩
 .show ((lives M owner).map (·.2)).toArray.toList.Perm _;rw[List.toList_toArray];refine (List.perm_ext_iff_of_nodup ?_ List.nodup_range).mpr λ k=>?_
  .refine List.pairwise_map.mpr (List.Pairwise.imp_of_mem ?_ (aU M owner));intro a b ha hb hab e;have h2:=(pd L.size (j:=a.1) (k:=a.2)).mp ha;have h3:=(pd L.size (j:=b.1) (k:=b.2)).mp hb;have e:a.2=b.2:=e;rw[e] at h2;have:=L.once _ _ _ h2 h3;omega
  .rw[List.mem_range];constructor
   .intro h;obtain⟨⟨j,k'⟩,h2,rfl⟩:=List.mem_map.mp h;exact L.below j _ ((pd L.size).mp h2)
   .intro h;obtain⟨j,hj⟩:=L.each k h;exact List.mem_map.mpr ⟨(j,k),(pd L.size).mpr hj,rfl⟩
 .have pl:∀ x,x∈(lives M owner).map (·.1)↔qF owner x:=λ x=>by
   constructor
   .intro h;obtain⟨⟨j,k⟩,h2,rfl⟩:=List.mem_map.mp h;exact⟨k,(pd L.size).mp h2⟩
   .rintro⟨k,hk⟩;exact List.mem_map.mpr ⟨(x,k),(pd L.size).mpr hk,rfl⟩
  refine⟨hM,rfl,?_,?_,?_,?_⟩
  .show ((lives M owner).map (·.1)).toArray.size=(((lives M owner).map (·.2)).toArray.toList.map _).length;simp
  .show tU ((lives M owner).map (·.1)).toArray.toList;rw[List.toList_toArray];exact List.pairwise_map.mpr (aU M owner)
  .intro x hx;show x<=M;have hx:x∈((lives M owner).map (·.1)).toArray.toList:=hx;rw[List.toList_toArray] at hx;obtain⟨k,hk⟩:=(pl x).mp hx;have:=(Array.getElem?_eq_some_iff.mp hk).1;rw[L.size] at this;omega
  .intro i g x hg hx;have hx:((lives M owner).map (·.1)).toArray[i]?=some x:=hx;have hg:(((lives M owner).map (·.2)).toArray.toList.map λ k=>hashes.toList.getD k 0)[i]?=some g:=hg;rw[List.getElem?_toArray,List.getElem?_map] at hx;rw[List.toList_toArray,List.getElem?_map,List.getElem?_map] at hg;obtain⟨p,p1,p2⟩:=zOm hx;rw[p1] at hg;simp only[Option.map_some,Option.some.injEq] at hg;obtain⟨j,k⟩:=p;cases p2;have hm:=(pd L.size).mp (List.mem_of_getElem? p1);have hk:=L.below _ _ hm;obtain⟨q,q1,q2⟩:=L.ml _ k g hm (by rw[<- hg];simp[hk]);refine⟨q,q1,λ q' hq=>?_⟩;show _∈((lives M owner).map (·.1)).toArray.toList;rw[List.toList_toArray];exact (pl _).mpr (q2 q' hq)
end ST
namespace ST
open PySem PySem.SetTable
section
variable {prog:Program}{w:World}{A:Around}{E:Value->Shared->Prop}{s:Shared}
abbrev rk (prog:Program) (w:World):HeapKind prog w (List Int):=tupleKind (intKind prog w)
theorem items_int {ks:List Int}{vs:List Value}(h:ItemsAre (intKind prog w) ks vs):∀ v∈vs,∃ n t,v=.int n t:=by
 induction h with
 | nil=>intro v hv;cases hv
 | cons h1 _ ih=>
  intro v hv;rcases List.mem_cons.mp hv with rfl | hv
  .obtain⟨t,e⟩:=Value.isInt_shape h1;exact⟨_,t,e⟩
  .exact ih v hv
theorem aI {ks:List Int}{a:Addr}{Q:Bool->Shared->Prop}(hk:IsTupleKey (intKind prog w) s.heap ks a) (h:Q false s):wpAny (model prog w) A (ofAClassStatement 8 (.ref a)) Q E s:=by
 have hT:=hk.typeIs;obtain⟨o,items,n,ho,_,hd,hi⟩:=hk;unfold ofAClassStatement;refine zWb (wpAny_typeOf hT ?_);show wpAny _ _ (pure true >>= _) _ _ s;refine zWb (wpAny_pure ?_);simp only[Bool.not_true,Bool.false_eq_true,if_false];refine zWb (wpAny_seqItems ho hd ?_);dsimp only;refine zWb ?_;show wpAny _ _ (forIn items _ _) _ _ s;rw[<- Array.forIn_toList];refine wpAny_forIn_list _ (λ rest r s'=>r.1=none/\s'=s/\∀ v∈rest,∃ n t,v=.int n t) _ ?_ ?_ _ _ ⟨rfl,rfl,items_int hi⟩
 .rintro v rest r s' ⟨hr,rfl,hall⟩;obtain⟨m,t,rfl⟩:=hall v zMc;show wpAny _ _ (pure false >>= _) _ _ _;refine zWb (wpAny_pure ?_);simp only[Bool.false_eq_true,if_false];exact wpAny_pure ⟨rfl,rfl,λ u hu=>hall u (zMo _ hu)⟩
 .rintro⟨r1,r2⟩ s' ⟨hr,rfl,_⟩;simp only at hr;subst hr;exact wpAny_pure h
theorem QP {ks:List Int}{a:Addr}{Q:Bool->Shared->Prop}(hk:IsTupleKey (intKind prog w) s.heap ks a) (h:Q true s):wpAny (model prog w) A (hashByValue 8 (.ref a)) Q E s:=by
 have hT:=hk.typeIs;obtain⟨o,items,n,ho,_,hd,hi⟩:=hk;unfold hashByValue;refine zWb (wpAny_specialOf hT F.slot_tuple_hash.lookup ?_);dsimp only;refine zWb (wpAny_seqItems ho hd ?_);refine zWb ?_;show wpAny _ _ (forIn items _ _) _ _ s;rw[<- Array.forIn_toList];refine wpAny_forIn_list _ (λ rest r s'=>r.1=none/\s'=s/\∀ v∈rest,∃ n t,v=.int n t) _ ?_ ?_ _ _ ⟨rfl,rfl,items_int hi⟩
 .rintro v rest r s' ⟨hr,rfl,hall⟩;obtain⟨m,t,rfl⟩:=hall v zMc;show wpAny _ _ (pure true >>= _) _ _ _;refine zWb (wpAny_pure ?_);simp only[Bool.not_true,Bool.false_eq_true,if_false];exact wpAny_pure ⟨rfl,rfl,λ u hu=>hall u (zMo _ hu)⟩
 .rintro⟨r1,r2⟩ s' ⟨hr,rfl,_⟩;simp only at hr;subst hr;exact wpAny_pure h
theorem WA {ks:List Int}{b:Addr}{Q:Bool->Shared->Prop}(hk:IsTupleKey (intKind prog w) s.heap ks b) (l:List Value) (hl:∀ v∈l,∃ k c,v=.ref c/\IsTupleKey (intKind prog w) s.heap k c) (h:Q false s):
  wpAny (model prog w) A (searchCouldBeSeen (.ref b) l) Q E s:=by
 unfold searchCouldBeSeen;refine zWb ?_;refine wpAny_forIn_list _ (λ rest r s'=>r.1=none/\s'=s/\∀ v∈rest,∃ k c,v=.ref c/\IsTupleKey (intKind prog w) s.heap k c) _ ?_ ?_ _ _ ⟨rfl,rfl,hl⟩
 .rintro v rest r s' ⟨hr,rfl,hall⟩;obtain⟨k,c,rfl,hc⟩:=hall v zMc;have rest':∀ u∈rest,∃ k c,u=Value.ref c/\IsTupleKey (intKind prog w) s'.heap k c:=λ u hu=>hall u (zMo _ hu);dsimp only;by_cases e:(b == c||(carriedByValue (.ref b)&&carriedByValue (.ref c)))=true
  .rw[if_pos e];exact wpAny_pure ⟨rfl,rfl,rest'⟩
  .rw[if_neg e];refine zWb ((rk prog w).quiet hk ?_);simp only[Bool.not_true,Bool.false_eq_true,if_false];refine zWb ((rk prog w).quiet hc ?_);simp only[Bool.not_true,Bool.false_eq_true,if_false];refine zWb (aI hk ?_);simp only[Bool.false_eq_true,if_false];refine zWb (aI hc ?_);simp only[Bool.false_eq_true,if_false];exact wpAny_pure ⟨rfl,rfl,rest'⟩
 .rintro⟨r1,r2⟩ s' ⟨hr,rfl,_⟩;simp only at hr;subst hr;exact wpAny_pure h
structure qK (h:Heap) (es:Array (Int×Value)) (t:SetTable) (xs:List (List Int×Addr)):Prop where
 es:es.toList=xs.map λ e=>((rk prog w).hash e.1,Value.ref e.2)
 is:∀ e∈xs,IsTupleKey (intKind prog w) h e.1 e.2
 tab:Tab t (xs.map λ e=>(rk prog w).hash e.1)
 mV:xs.length<=t.mask
theorem qK.fits {h:Heap}{es:Array (Int×Value)}{t:SetTable}{xs:List (List Int×Addr)}(X:qK (prog:=prog) (w:=w) h es t xs):t.fits es.size=true:=by
 have hl:es.size=xs.length:=by have:=congrArg List.length X.es;simpa using this
 have h1:=X.tab.len;rw[List.length_map] at h1;have h2:=X.mV;unfold SetTable.fits SetTable.fill;rw[X.tab.qz,hl,h1];simp;omega
theorem qK.at {h:Heap}{es:Array (Int×Value)}{t:SetTable}{xs:List (List Int×Addr)}(X:qK (prog:=prog) (w:=w) h es t xs) {i:Nat}{e:List Int×Addr}(he:xs[i]?=some e):es[i]?=some ((rk prog w).hash e.1,Value.ref e.2):=by
 rw[<- Array.getElem?_toList,X.es,List.getElem?_map,he];rfl
theorem cW {a:Addr}{o:Obj}{es:Array (Int×Value)}{ep:Nat}{t:SetTable}{xs:List (List Int×Addr)}{key:List Int}{b:Addr}{Q:SetFound->Shared->Prop}
  (hu:A.units<cLine) (ho:s.heap.get? a=some o) (hd:o.data=.set es ep t) (X:qK (prog:=prog) (w:=w) s.heap es t xs) (hb:IsTupleKey (intKind prog w) s.heap key b)
  (h1:key∈xs.map (·.1)->Q (.there none) s) (h2:key∉xs.map (·.1)->∀ j,dJ t ((rk prog w).hash key) j->Q (.free j false) s):
  ∀ (fuel k:Nat) (stand:Option Probe),stand.getD (t.probeStart ((rk prog w).hash key))=way t.mask ((rk prog w).hash key) k->(∀ m<k,∃ (i:Nat) (e:List Int×Addr),t.place[i]?=some (way t.mask ((rk prog w).hash key) m).j/\xs[i]?=some e/\e.1≠key)->(∃ K,k<=K/\K<k+fuel/\K<10*(t.mask+15)/\(way t.mask ((rk prog w).hash key) K).j∉t.place.toList/\∀ m<K,(way t.mask ((rk prog w).hash key) m).j∈t.place.toList)->
   wpAny (model prog w) A (setSearchFrom a (.ref b) ((rk prog w).hash key) true fuel stand) Q E s
 | 0,k,stand,_,_,⟨K,q1,q2,_⟩=>by omega
 | fuel+1,k,stand,hst,hpast,⟨K,q1,q2,q3,q4,q5⟩=>by
  have T:=X.tab;have hodd:t.gaveWay=false:=by
   unfold SetTable.gaveWay;rcases T.mask with e | e | e <;> rw[e] <;> rfl
  unfold setSearchFrom;refine zWb (wpAny_setState_of ho hd X.fits ?_);dsimp only;rw[hodd];simp only[Bool.false_eq_true,if_false];have hA:∀ (i:Nat) g,(xs.map λ e=>(rk prog w).hash e.1)[i]?=some g->((es[i]?).map (·.1)).getD 0=g:=λ i g hg=>by
   rw[List.getElem?_map] at hg;obtain⟨e,e1,e2⟩:=zOm hg;rw[X.at e1];exact e2
  obtain⟨k1,g1,g2,g3⟩:=Z7 T (hashAt:=λ i=>((es[i]?).map (·.1)).getD 0) hA ((rk prog w).hash key) (10*turns t.mask) k ⟨K,q1,by unfold turns;omega,q4⟩;rw[hst];have look:∀ (i:Nat) g,(xs.map λ e=>(rk prog w).hash e.1)[i]?=some g->∃ e,xs[i]?=some e/\(rk prog w).hash e.1=g:=λ i g hg=>by
   rw[List.getElem?_map] at hg;obtain⟨e,e1,e2⟩:=zOm hg;exact⟨e,e1,e2⟩
  have hpast':∀ m<k1,∃ (i:Nat) (e:List Int×Addr),t.place[i]?=some (way t.mask ((rk prog w).hash key) m).j/\xs[i]?=some e/\e.1≠key:=λ m hm=>by
   rcases Nat.lt_or_ge m k with c | c
   .exact hpast m c
   .obtain⟨i,g,p1,p2,p3⟩:=g2 m c hm;obtain⟨e,e1,e2⟩:=look i g p2;exact⟨i,e,p1,e1,λ q=>p3 (by rw[<- e2,q])⟩
  rcases g3 with ⟨n1,n2⟩ | ⟨i,n1,n2,n3⟩
  .have n2':t.probe _ ((rk prog w).hash key) (way t.mask ((rk prog w).hash key) k)=_:=n2;simp only[SetTable.probe] at n2' ⊢
   erw [n2]
   dsimp only;refine wpAny_pure (h2 (λ hm=>?_) _ ⟨n1,k1,rfl,λ m hm=>?_⟩)
   .obtain⟨e,he,ek⟩:=List.mem_map.mp hm;obtain⟨i,hi⟩:=List.mem_iff_getElem?.mp he;have hh:(xs.map λ e=>(rk prog w).hash e.1)[i]?=some ((rk prog w).hash key):=by rw[List.getElem?_map,hi,<- ek];rfl
    have hil:i<t.place.size:=by rw[T.len];exact (List.getElem?_eq_some_iff.mp hh).1
    obtain⟨kk,w1,w2⟩:=T.ml i _ _ hh (Array.getElem?_eq_getElem hil);rcases Nat.lt_trichotomy kk k1 with c | c | c
    .obtain⟨i',e',p1,p2,p3⟩:=hpast' kk c;rw[w1] at p1;have:i=i':=by
      rw[<- below_at T.vt (Array.getElem?_eq_getElem hil),<- below_at T.vt p1]
     subst this;rw[hi] at p2;cases p2;exact p3 ek
    .subst c;rw[w1] at n1;exact n1 (by simp)
    .exact n1 (w2 k1 c)
   .obtain⟨i',e',p1,_⟩:=hpast' m hm;exact List.mem_of_getElem? (by rw[Array.getElem?_toList];exact p1)
  .simp only[SetTable.probe]
   erw [n3]
   dsimp only;obtain⟨e,e1,e2⟩:=look i _ n2;have hes:=X.at e1;have hey:=X.is e (List.mem_of_getElem? e1);have main:wpAny (model prog w) A (holding [Value.ref e.2] (eqBool (.ref e.2) (.ref b)) >>= λ equal=>setState a >>= λ x=>match x with
     | (es',_,t')=>if (true&&equal)=true then pure (SetFound.there none) else
      match t'.sameMemory t.moves t.mask with
      | some same=>
       have jp:=λ still=>match still with
        | none=>do
         rule "set.search.anew"
         setSearchFrom a (.ref b) ((rk prog w).hash key) true fuel none
        | some i'=>if equal=true then pure (SetFound.there (some i')) else setSearchFrom a (.ref b) ((rk prog w).hash key) true fuel (some (way t.mask ((rk prog w).hash key) (k1+1)))
       match if same=true then t'.slot (way t.mask ((rk prog w).hash key) k1).j else Slot.empty with
       | .live i'=>match es'[i']? with
        | some (_,y')=>do
         let r <- isSame y' (.ref e.2)
         let still <- pure (if r=true then some i' else none)
         jp still
        | none=>do
         let still <- pure none
         jp still
       | _=>do
        let still <- pure none
        jp still
      | _=>unsupported "set.changed-during-lookup:is-the-new-block-at-the-old-address") Q E s:=by
    refine zWb (wpAny_holding ((rk prog w).eqBool hu hey hb ?_));refine zWb (wpAny_setState_of ho hd X.fits ?_);dsimp only;by_cases hk:e.1=key
    .rw[decide_eq_true hk];simp only[Bool.and_self,if_true];exact wpAny_pure (h1 (List.mem_map.mpr ⟨e,List.mem_of_getElem? e1,hk⟩))
    .rw[decide_eq_false hk];simp only[Bool.and_false,Bool.false_eq_true,if_false];have sm:t.sameMemory t.moves t.mask=some true:=by unfold SetTable.sameMemory;simp
     rw[sm];dsimp only;rw[if_pos rfl,T.live n1];dsimp only;rw[hes];dsimp only;refine zWb (wpAny_isSame_ref_self ?_);refine zWb (wpAny_pure ?_);rw[if_pos rfl];dsimp only;have hKk:k1<K:=by
      rcases Nat.lt_trichotomy K k1 with c | c | c
      .obtain⟨i',e',p1,_⟩:=hpast' K c;exact absurd (List.mem_of_getElem? (by rw[Array.getElem?_toList];exact p1)) q4
      .subst c;exact absurd (List.mem_of_getElem? (by rw[Array.getElem?_toList];exact n1)) q4
      .exact c
     refine cW hu ho hd X hb h1 h2 fuel (k1+1) _ rfl (λ m hm=>?_) ⟨K,by omega,by omega,q3,q4,q5⟩;rcases Nat.lt_or_ge m k1 with c | c
     .exact hpast' m c
     .have:m=k1:=by omega
      subst this;exact⟨i,e,n1,e1,hk⟩
   rw[hes];by_cases hl:t.led=true
   .rw[hl];simp only[Bool.not_true,Bool.false_eq_true,if_false];exact main
   .have hl':t.led=false:=by simpa using hl
    rw[hl'];simp only[Bool.not_false,if_true];refine zWb (WA hb _ (λ v hv=>?_) ?_)
    .obtain⟨p,hp,rfl⟩:=List.mem_map.mp hv;rw[Array.toList_filter,List.mem_filter,X.es] at hp;obtain⟨⟨e',he',rfl⟩,_⟩:=(And.intro (List.mem_map.mp hp.1) hp.2)
     exact⟨e'.1,e'.2,rfl,X.is e' he'⟩
    .simp only[Bool.false_eq_true,if_false];exact main
end
end ST
namespace ST
open PySem PySem.SetTable
section
variable {prog:Program}{w:World}{A:Around}{E:Value->Shared->Prop}{s:Shared}
structure uA (prog:Program) (w:World) (h:Heap) (a:Addr) (xs:List (List Int×Addr)) (led:Bool):Prop where
 ex:∃ es ep t,h.get? a=some { cls:=.type "set",dict:=none,data:=.set es ep t }/\qK (prog:=prog) (w:=w) h es t xs/\t.led=led/\t.plain=true/\xs.length*5<t.mask*3
 nd:(xs.map (·.1)).Nodup
theorem iu {h h':Heap}{ks:List Int}{b a:Addr}{es:Array (Int×Value)}{ep:Nat}{t:SetTable}{c:Value}{d:Option Addr}{sl:Array (Option Value)}(x:IsTupleKey (intKind prog w) h ks b) (ho:h.get? a=some { cls:=c,dict:=d,data:=.set es ep t,slots:=sl }) (hs:Heap.SameBut a h h'):IsTupleKey (intKind prog w) h' ks b:=by
 obtain⟨o',items,n,ho',hc,hd',hi⟩:=x;have hne:b≠a:=by
  rintro rfl;obtain rfl:o'=_:=Option.some.inj (ho'.symm.trans ho);cases hd'
 exact⟨o',items,n,(hs.2 b hne).trans ho',hc,hd',hi⟩
theorem kE {h:Heap}{a:Addr}{es es':Array (Int×Value)}{ep:Nat}{t t':SetTable}(ho:h.get? a=some { cls:=.type "set",dict:=none,data:=.set es ep t }):(h.update a (Obj.putSet es' t')).get? a=some { cls:=.type "set",dict:=none,data:=.set es' (ep+1) t' }:=by
 have e:Obj.putSet es' t' { cls:=.type "set",dict:=none,data:=.set es ep t }={ cls:=.type "set",dict:=none,data:=.set es' (ep+1) t' }:=putSet_of es' t' rfl;have:=Heap.get?_update_self (Obj.putSet es' t') ho (by rw[e];rfl);rw[e] at this;exact this
theorem gD {α β:Type}(l:List α) (f:α->β) (d:β):∀ (order:List Nat),(∀ k∈order,k<l.length)->order.map (λ k=>(l.map f).getD k d)=(order.filterMap λ k=>l[k]?).map f
 | [],_=>rfl
 | k::order,h=>by
  have hk:=h k zMc;have ih:=gD l f d order λ j hj=>h j (zMo _ hj);rw[List.map_cons,List.filterMap_cons,List.getElem?_eq_getElem hk];dsimp only;rw[List.map_cons,ih];congr 1;simp[hk]
theorem VX {a:Addr}{es:Array (Int×Value)}{ep:Nat}{t:SetTable}{xs:List (List Int×Addr)}{led:Bool}{wanted M:Nat}{Q:Unit->Shared->Prop}
  (ho:s.heap.get? a=some { cls:=.type "set",dict:=none,data:=.set es ep t }) (X:qK (prog:=prog) (w:=w) s.heap es t xs) (hled:t.led=led) (hpl:t.plain=true) (hM:uf M) (hw:sizeAbove wanted=M+1) (hfew:xs.length*5<M*3) (hnd:(xs.map (·.1)).Nodup)
  (h:∀ h' xs',Heap.SameBut a s.heap h'->uA prog w h' a xs' led->xs'.Perm xs->Q () { s with heap:=h' }):wpAny (model prog w) A (setRelay a wanted) Q E s:=by
 have hlen:es.size=xs.length:=by have:=congrArg List.length X.es;simpa using this
 have hhs:(es.map (·.1)).toList=xs.map λ e=>(rk prog w).hash e.1:=by rw[Array.toList_map,X.es,List.map_map];rfl
 have hsz:(es.map (·.1)).size=xs.length:=by rw[Array.size_map,hlen]
 obtain⟨t',order,h1,h2,h3,h4,h5,h6,h7⟩:=Zd hM t.finger (t.movedTo M) t.led t.plain (es.map (·.1)) (by rw[hsz];omega);rw[hsz] at h6;have hlt:∀ k∈order.toList,k<xs.length:=λ k hk=>by simpa using h6.mem_iff.mp hk
 unfold setRelay;refine zWb (wpAny_setState_of ho rfl X.fits ?_);dsimp only;rw[if_neg (by rw[hw];rcases hM with e | e | e <;> rw[e] <;> decide)];have hr:t.relaid (es.map (·.1)) wanted=some (t',order):=by
  unfold SetTable.relaid;rw[hw,Nat.add_sub_cancel];exact h1
 rw[hr];have hes':(order.filterMap (es[·]?)).toList=(order.toList.filterMap λ k=>xs[k]?).map λ e=>((rk prog w).hash e.1,Value.ref e.2):=by
  rw[Array.toList_filterMap,List.map_filterMap];congr 1;funext k;rw[<- Array.getElem?_toList,X.es,List.getElem?_map]
 have hperm:(order.toList.filterMap λ k=>xs[k]?).Perm xs:=(h6.filterMap _).trans (by rw[List.filterMap_getElem?_range_length]);have hsz':(order.filterMap (es[·]?)).size=es.size:=by
  rw[<- Array.length_toList,hes',List.length_map,hperm.length_eq,hlen]
 refine zWb (m:=_) ?_;show wpAny _ _ (do
  let some (t,order):=some (t',order) | unsupported "internal:set-table-without-room"
  let es':=order.filterMap (es[·]?)
  if es'.size != es.size then unsupported "internal:set-table-lost-an-element"
  pure (es',t)) _ _ _
 dsimp only;rw[if_neg (by rw[hsz'];simp)];refine wpAny_pure ?_;have hsl:(order.filterMap (es[·]?)).size<=sizeLine:=by
  rw[hsz',hlen];have:sizeLine=16777216:=rfl;rcases hM with e | e | e <;> subst e <;> omega
 refine wpAny_storeSet_of ho rfl ?_ hsl;have sb:=Heap.SameBut.update s.heap a (Obj.putSet (order.filterMap (es[·]?)) t');refine h _ _ sb ⟨⟨_,ep+1,t',kE ho,⟨hes',λ e he=>iu (X.is e (hperm.mem_iff.mp he)) ho sb,?_,?_⟩,by rw[h4];exact hled,by rw[h5];exact hpl,?_⟩,(hperm.map _).nodup_iff.mpr hnd⟩ hperm
 .rw[<- gD xs (λ e=>(rk prog w).hash e.1) 0 order.toList hlt,<- hhs];exact h7
 .rw[hperm.length_eq,h2];omega
 .rw[hperm.length_eq,h2];exact hfew
theorem cT (n:Nat) (M:Nat) (hM:uf M) (h1:n*5<M*3) (h2:M*3<=(n+1)*5) (hn:n<70):∃ M',uf M'/\sizeAbove (grown (n+1))=M' + 1/\(n+1)*5<M'*3:=by
 rcases hM with e | e | e <;> subst e
 .have:n=4:=by omega
  subst this;exact⟨31,.inr (.inl rfl),by decide +kernel,by omega⟩
 .have:n=18:=by omega
  subst this;exact⟨127,.inr (.inr rfl),by decide +kernel,by omega⟩
 .omega
theorem Nn {a:Addr}{xs:List (List Int×Addr)}{key:List Int}{b:Addr}{led:Bool}{Q:Bool->Shared->Prop}(hu:A.units<cLine) (S:uA prog w s.heap a xs led) (hb:IsTupleKey (intKind prog w) s.heap key b) (hn:xs.length<70)
  (h:∀ h' xs' r,Heap.SameBut a s.heap h'->uA prog w h' a xs' led->(key∈xs.map (·.1)/\xs'=xs\/key∉xs.map (·.1)/\xs'.Perm (xs++[(key,b)]))->Q r { s with heap:=h' }):
  wpAny (model prog w) A (setAddHashed a (.ref b) ((rk prog w).hash key)) Q E s:=by
 obtain⟨⟨es,ep,t,ho,X,hled,hpl,hfew⟩,hnd⟩:=S;have hlen:es.size=xs.length:=by have:=congrArg List.length X.es;simpa using this
 unfold setAddHashed setAddHashedIn;refine wpAny_holding (zWb (wpAny_setState_of ho rfl X.fits ?_));dsimp only;rw[if_neg (by simp[byScan,Value.scannable])];obtain⟨K,k1,k2,k3⟩:=X.tab.first (by rw[List.length_map];exact X.mV) ((rk prog w).hash key);have hmk:t.mask<=127:=by rcases X.tab.mask with e | e | e <;> omega
 refine zWb ?_;unfold setSearch;refine cW (key:=key) (b:=b) hu ho rfl X hb (λ hm=>?_) (λ hm j F=>?_) 100000 0 none rfl (λ m hm=>by omega) ⟨K,by omega,by omega,k1,k2,k3⟩
 .dsimp only;refine wpAny_pure ?_;have:=h s.heap xs false ⟨rfl,λ _ _=>rfl⟩ ⟨⟨es,ep,t,ho,X,hled,hpl,hfew⟩,hnd⟩ (.inl ⟨hm,rfl⟩);exact this
 .dsimp only;refine zWb (wpAny_setState_of ho rfl X.fits ?_);dsimp only;obtain⟨p1,p2,p3⟩:=X.tab.put F;rw[List.length_map] at p1;have hpt:(t.put j).1.plain=true:=by rw[p2];exact hpl
  have hmt:(t.put j).1.mask=t.mask:=by rw[p2]
  have hlt:(t.put j).1.led=led:=by rw[p2];exact hled
  generalize hT:(t.put j)=P at *;obtain⟨t1,p⟩:=P;dsimp only at *;rw[hpt];simp only[if_true];refine zWb (QP hb ?_);simp only[if_true]
  let xs1:=xs.take p++(key,b)::xs.drop p
  have hperm:xs1.Perm (xs++[(key,b)]):=by
   have e:xs.take p++xs.drop p=xs:=List.take_append_drop p xs;have:xs1.Perm ((key,b)::(xs.take p++xs.drop p)):=List.perm_middle;rw[e] at this;exact this.trans (List.perm_append_singleton _ _).symm
  have hl1:xs1.length=xs.length+1:=by rw[hperm.length_eq];simp
  have hes1:(insertAt es p ((rk prog w).hash key,Value.ref b)).toList=xs1.map λ e=>((rk prog w).hash e.1,Value.ref e.2):=by
   rw[toList_insertAt,X.es];simp[xs1,List.map_take,List.map_drop]
  have hsz1:(insertAt es p ((rk prog w).hash key,Value.ref b)).size=xs.length+1:=by rw[<- Array.length_toList,hes1,List.length_map,hl1]
  have hsl:(insertAt es p ((rk prog w).hash key,Value.ref b)).size<=sizeLine:=by
   rw[hsz1];have:sizeLine=16777216:=rfl;omega
  refine zWb (wpAny_storeSet_of ho rfl ?_ hsl);have sb:=Heap.SameBut.update s.heap a (Obj.putSet (insertAt es p ((rk prog w).hash key,Value.ref b)) t1);have ho1:=kE (es':=insertAt es p ((rk prog w).hash key,Value.ref b)) (t':=t1) ho;have hm7:7<=t.mask:=by rcases X.tab.mask with e | e | e <;> omega
  have X1:qK (prog:=prog) (w:=w) (s.heap.update a (Obj.putSet (insertAt es p ((rk prog w).hash key,Value.ref b)) t1)) (insertAt es p ((rk prog w).hash key,Value.ref b)) t1 xs1:=by
   refine⟨hes1,λ e he=>?_,?_,by rw[hl1,hmt];omega⟩
   .rcases List.mem_append.mp (hperm.mem_iff.mp he) with q | q
    .exact iu (X.is e q) ho sb
    .cases List.mem_singleton.mp q;exact iu hb ho sb
   .have:xs1.map (λ e=>(rk prog w).hash e.1)=(xs.map λ e=>(rk prog w).hash e.1).take p++(rk prog w).hash key::(xs.map λ e=>(rk prog w).hash e.1).drop p:=by simp[xs1,List.map_take,List.map_drop]
    rw[this];exact p3
  have hnd1:(xs1.map (·.1)).Nodup:=by
   refine (hperm.map _).nodup_iff.mpr ?_;rw[List.map_append,List.nodup_append];refine⟨hnd,by simp,λ x hx y hy=>?_⟩;simp at hy;subst hy;exact λ e=>hm (e▸hx)
  by_cases hf:t1.tooFull=true
  .rw[hf];simp only[Bool.not_false,Bool.and_self,if_true];have hfill:t1.fill=xs.length+1:=by
    unfold SetTable.fill;rw[p3.qz,p3.len];simp;omega
   have hfull:t.mask*3<=(xs.length+1)*5:=by
    have:=hf;unfold SetTable.tooFull at this;rw[hfill,hmt] at this;simpa using this
   obtain⟨M',g1,g2,g3⟩:=cT xs.length t.mask X.tab.mask hfew hfull hn;rw[hlen];refine zWb (VX (led:=led) ho1 X1 hlt hpt g1 g2 (by rw[hl1];exact g3) hnd1 λ h' xs' sb' S' pm=>?_);refine wpAny_pure ?_;exact h h' xs' true (sb.trans sb') S' (.inr ⟨hm,pm.trans hperm⟩)
  .have hf':t1.tooFull=false:=by simpa using hf
   rw[hf'];simp only[Bool.not_false,Bool.and_false,Bool.false_eq_true,if_false];refine wpAny_pure ?_;have hfill:t1.fill=xs.length+1:=by
    unfold SetTable.fill;rw[p3.qz,p3.len];simp;omega
   have hfull:(xs.length+1)*5<t.mask*3:=by
    have:=hf';unfold SetTable.tooFull at this;rw[hfill,hmt] at this;simpa using this
   exact h _ xs1 true sb ⟨⟨_,ep+1,t1,ho1,X1,hlt,hpt,by rw[hl1,hmt];exact hfull⟩,hnd1⟩ (.inr ⟨hm,hperm⟩)
end
end ST
namespace ST
open PySem PySem.SetTable
noncomputable def uu (w:World):Bool:=!w.params.followText "set-order"
noncomputable def xC (w:World):Obj:={ cls:=.type "set",dict:=none,data:=.set #[] 0 (.fresh 0 0 (uu w)) }
section
variable {prog:Program}{w:World}{A:Around}{E:Value->Shared->Prop}{s:Shared}
set_option maxHeartbeats 3200000 in
theorem Yx (a:Value) {Q:Value->Shared->Prop}(h:Q (.ref s.heap.objs.size) { s with heap:=s.heap.push (xC w) }):
  codeAny (model prog w) A (.call (.builtin "set.__new__") ⟨[.type "set",a],[]⟩) (wants Q E) s:=by
 refine codeAny_of_tree ?_;show wpAny _ A.in1 (checkBuiltinCall "set.__new__" ⟨[.type "set",a],[]⟩ >>= λ _=>again (.builtin "set.__new__" ⟨[.type "set",a],[]⟩)) _ _ s;refine zWb (wpAny_of_eq (F.newCall_set_1 a) (wpAny_pure ⟨plainId_quiet F.plain_set_new _,codeAny_builtin F.entry_set_new ?_⟩));rw[Around.under_plainId F.plain_set_new _];unfold Builtin.«set.__new__» Builtin.Frozenset.newClass newSet setsByText;have sub:=sub_set_self;obtain⟨hp,g,d,tk,os⟩:=s;dsimp only
 wp_walk
 refine wpAny_askSetting (wpAny_pure ?_);dsimp only;simp only[newObj];exact zWb (wpAny_alloc (wpAny_pure (wpAny_pure h)))
theorem V7 {h:Heap}{a:Addr}(ho:h.get? a=some (xC w)):uA prog w h a [] (uu w):=
 ⟨⟨#[],0,_,ho,⟨rfl,λ e he=>(by cases he),⟨.inl rfl,rfl,rfl,.nil,λ j hj=>(by cases hj),λ i g j hg=>(by cases hg)⟩,by simp⟩,rfl,rfl,by show 0*5<7*3;omega⟩,.nil⟩
end
end ST
namespace ST
open PySem PySem.SetTable PyProof.Rows
structure Up (its:Array Value) (rows:List (List Int)) (i:Nat) (xs:List (List Int×Addr)):Prop where
 own:∀ e∈xs,∃ j,j<i/\its[j]?=some (.ref e.2)/\rows[j]?=some e.1
 all:∀ (j:Nat) r,j<i->rows[j]?=some r->r∈xs.map (·.1)
theorem Up.len {its:Array Value}{rows:List (List Int)}{i:Nat}{xs:List (List Int×Addr)}(U:Up its rows i xs) (nd:(xs.map (·.1)).Nodup):xs.length<=i:=by
 have:∀ x∈xs.map (·.1),x∈(List.range i).map λ j=>rows.getD j []:=λ x hx=>by
  obtain⟨e,he,rfl⟩:=List.mem_map.mp hx;obtain⟨j,h1,_,h3⟩:=U.own e he;refine List.mem_map.mpr ⟨j,List.mem_range.mpr h1,?_⟩;rw[List.getD_eq_getElem?_getD,h3];rfl
 have key:∀ (l m:List (List Int)),l.Nodup->(∀ x∈l,x∈m)->l.length<=m.length:=by
  intro l
  induction l with
  | nil=>intro m _ _;exact Nat.zero_le _
  | cons x l ih=>
   intro m hn hs;have h1:=List.nodup_cons.mp hn;have hx:=hs x zMc;have:=ih (m.erase x) h1.2 λ z hz=>(List.mem_erase_of_ne (λ e:z=x=>h1.1 (by rw[<- e];exact hz))).mpr (hs z (zMo _ hz));rw[List.length_erase_of_mem hx] at this;have:=List.length_pos_of_mem hx;simp only[List.length_cons];omega
 have:=key _ _ nd this;simpa using this
theorem Up.step {its:Array Value}{rows:List (List Int)}{i:Nat}{xs xs':List (List Int×Addr)}{key:List Int}{b:Addr}(U:Up its rows i xs) (hi:its[i]?=some (.ref b)) (hr:rows[i]?=some key)
  (h:key∈xs.map (·.1)/\xs'=xs\/key∉xs.map (·.1)/\xs'.Perm (xs++[(key,b)])):Up its rows (i+1) xs':=by
 rcases h with ⟨hm,rfl⟩ | ⟨_,hp⟩
 .refine⟨λ e he=>?_,λ j r hj hrj=>?_⟩
  .obtain⟨j,h1,h2⟩:=U.own e he;exact⟨j,by omega,h2⟩
  .rcases Nat.lt_or_ge j i with q | q
   .exact U.all j r q hrj
   .have:j=i:=by omega
    subst this;rw[hr] at hrj;cases hrj;exact hm
 .refine⟨λ e he=>?_,λ j r hj hrj=>?_⟩
  .rcases List.mem_append.mp (hp.mem_iff.mp he) with q | q
   .obtain⟨j,h1,h2⟩:=U.own e q;exact⟨j,by omega,h2⟩
   .cases List.mem_singleton.mp q;exact⟨i,by omega,hi,hr⟩
  .have hp':=hp.map (·.1);rw[hp'.mem_iff,List.map_append];rcases Nat.lt_or_ge j i with q | q
   .exact List.mem_append_left _ (U.all j r q hrj)
   .have:j=i:=by omega
    subst this;rw[hr] at hrj;cases hrj;exact List.mem_append_right _ zMc
section
variable {prog:Program}{w:World}{A:Around}{R:Result->Shared->Prop}{I:Addr}{fp wr:List Addr}{G:Array GenState->Array GenState->Prop}{n:Nat}{P:Nat->Value->Prop}{St:Nat->Shared->Prop}
def pL (prog:Program) (w:World) (h:Heap) (its:Array Value) (rows:List (List Int)):Prop:=∀ (i:Nat) v,its[i]?=some v->∃ b r,v=.ref b/\rows[i]?=some r/\IsTupleKey (intKind prog w) h r b
theorem pL.at {h h':Heap}{its:Array Value}{rows:List (List Int)}(T:pL prog w h its rows) (k:∀ (i:Nat) b,its[i]?=some (.ref b)->∀ o,h.get? b=some o->h'.get? b=some o):pL prog w h' its rows:=λ i v hv=>by
 obtain⟨b,r,rfl,h1,o,items,m,h2,h3⟩:=T i v hv;exact⟨b,r,rfl,h1,o,items,m,k i b hv o h2,h3⟩
theorem Qa (W:WalksS prog w A.in1 I fp wr G n (λ i v=>P i v) St) (Sa:Addr) (hSf:Sa∉fp) {its:Array Value}{rows:List (List Int)}(hP:∀ i v,P i v->its[i]?=some v) (hn:n<70) (hu:A.units+1<cLine) (led:Bool)
  (hoff:∀ (i:Nat) b,its[i]?=some (.ref b)->b∉Sa::wr):∀ (k i:Nat) (s:Shared) (xs:List (List Int×Addr)),n-i=k->i<=n->St i s->uA prog w s.heap Sa xs led->pL prog w s.heap its rows->Up its rows i xs->
   (∀ s' xs',Moved (Sa::wr) G s s'->uA prog w s'.heap Sa xs' led->Up its rows n xs'->R (.ok (.ret .none)) s')->
   codeAny (model prog w) A (.builtin "set.update.loop" ⟨[.ref Sa,.ref I],[]⟩) R s:=by
 have hSw:Sa∉wr:=λ z=>hSf (W.sub _ z);have more:∀ b∈wr,b∈Sa::wr:=λ b hb=>zMo _ hb;have keepS:∀ {s s':Shared}{xs:List (List Int×Addr)}{wr':List Addr},Sa∉wr'->(∀ e∈xs,e.2∉wr')->Moved wr' G s s'->uA prog w s.heap Sa xs led->uA prog w s'.heap Sa xs led:=λ{s s' xs wr'} h1 h2 hm ⟨⟨es,ep,t,ho,X,r1,r2,r3⟩,nd⟩=>
  ⟨⟨es,ep,t,hm.heap Sa _ h1 ho,⟨X.es,λ e he=>by
   obtain⟨o,items,m,g1,g2⟩:=X.is e he;exact⟨o,items,m,hm.heap _ _ (h2 e he) g1,g2⟩,X.tab,X.mV⟩,r1,r2,r3⟩,nd⟩
 intro k
 induction k with
 | zero=>
  intro i s xs hk hi hst hS hT hU hR;have e:i=n:=by omega
  subst e;refine codeAny_builtin F.entry_set_update_loop ?_;rw[Around.under_plainId F.plain_set_update_loop _];show wpAny _ A.in1 (pyNext (.ref I) >>= _) _ _ s;refine zWb (W.done s _ _ hst λ s' hm=>?_);refine wpAny_pure (hR s' xs (hm.mono more) (keepS hSw (λ e he=>?_) hm hS) hU);obtain⟨j,_,h2,_⟩:=hU.own e he;exact λ z=>hoff j e.2 h2 (more _ z)
 | succ k ih=>
  intro i s xs hk hi hst hS hT hU hR;have hlt:i<n:=by omega
  refine codeAny_builtin F.entry_set_update_loop ?_;rw[Around.under_plainId F.plain_set_update_loop _];show wpAny _ A.in1 (pyNext (.ref I) >>= _) _ _ s;refine zWb (W.item i s _ _ hlt hst λ v s1 hPv hst1 hm=>?_);have hv:=hP i v hPv;have T1:pL prog w s1.heap its rows:=hT.at λ j b hj o e=>hm.heap b o (λ z=>hoff j b hj (more _ z)) e;obtain⟨b,r,rfl,hr,hb⟩:=T1 i v hv;have S1:uA prog w s1.heap Sa xs led:=keepS hSw (λ e he=>by
   obtain⟨j,_,h2,_⟩:=hU.own e he;exact λ z=>hoff j e.2 h2 (more _ z)) hm hS
  have hl:xs.length<70:=by have:=hU.len hS.nd;omega
  show wpAny _ A.in1 (holding [Value.ref b] (setAdd Sa (.ref b)) >>= _) _ _ s1;refine zWb (wpAny_holding ?_);unfold setAdd;refine wpAny_holding (zWb ((rk prog w).pyHash (k:=r) (a:=b) (A:=A.in1) hu hb ?_));refine Nn (s:={ s1 with toks:=s1.toks+(rk prog w).draws r }) (A:=A.in1) hu S1 hb hl λ h' xs' rr sb S' hx=>?_;have fr:=W.frame (i+1) s1 h' (s1.toks+(rk prog w).draws r) hst1 (Nat.le_add_right _ _) λ c hc o e=>(sb.2 c (λ z:c=Sa=>hSf (z▸hc))).trans e;refine wpAny_pure ⟨plainId_quiet F.plain_set_update_loop _,ih (i+1) _ xs' (by omega) hlt fr S' (T1.at λ j c hj o e=>?_) (hU.step hv hr hx) λ s2 xs2 hm2 S2 U2=>?_⟩
  .exact (sb.2 c (λ z=>hoff j c hj (z▸zMc))).trans e
  .refine hR s2 xs2 (Moved.trans W.gtrans ((hm.mono more).then_heap (Nat.le_add_right _ _) λ c o hc e=>?_) hm2) S2 U2;exact (sb.2 c (λ z=>hc (z▸zMc))).trans e
end
end ST
namespace ST
open PySem PySem.SetTable PyProof.Rows
section
variable {prog:Program}{w:World}{A:Around}{E:Value->Shared->Prop}{s:Shared}
set_option maxRecDepth 100000 in
set_option maxHeartbeats 6400000 in
theorem OE {l:Addr}{its:Array Value}{rows:List (List Int)}{Q:Value->Shared->Prop}(hh:A.handled=none) (hu:A.units+64<cLine) (hl:s.heap.IsList l its) (hT:pL prog w s.heap its rows) (hn:its.size<70)
  (h:∀ (h':Heap) (tk:Nat) xs,uA prog w h' s.heap.objs.size xs (uu w)->Up its rows its.size xs->(∀ b o,b<s.heap.objs.size->s.heap.get? b=some o->h'.get? b=some o)->Q (.ref s.heap.objs.size) { s with heap:=h',toks:=tk }):
  wpAny (model prog w) A (call (.type "set") [.ref l]) Q E s:=by
 obtain⟨c,tl,hmro⟩:=F.called_set.mro;have made:=F.called_set.made;have subm:=F.called_set.sub;refine wpAny_call (codeAny_of_tree ?_);show wpAny _ _ (callAny (.type "set") _) _ _ _;refine wpAny_pure ⟨Code.quiet_builtin _ (by decide +kernel),codeAny_builtin F.entry_type_call ?_⟩;rw[Around.under_plain (weight_type_call_type "set" [.ref l] []) rfl];have nt:=F.called_set.notType;have cc:=F.called_set.canCreate;have tc:=F.typeCall_set_1 (.ref l)
 repeat (any_goals (first | assumption | wp_step))
 refine codeAny_mono (Yx (.ref l) (E:=E) (Q:=λ obj s₁=>obj=.ref s.heap.objs.size/\s₁={ s with heap:=s.heap.push (xC w) }) ⟨rfl,rfl⟩) λ r s₁ hr=>?_;cases r with
 | error e=>exact hr
 | ok fl=>
  cases fl with
  | ret obj=>
   obtain⟨rfl,rfl⟩:=hr;have hS:(s.heap.push (xC w)).get? s.heap.objs.size=some (xC w):=Heap.get?_push_size _ rfl;have hTy:Shared.TypeIs { s with heap:=s.heap.push (xC w) } (.ref s.heap.objs.size) "set":=⟨_,hS,rfl⟩
   have li:=F.called_set.init.lookup;have bi:=F.called_set.init.bind (.ref s.heap.objs.size)
   repeat (any_goals (first | assumption | wp_step))
   let s1:Shared:={ s with heap:=s.heap.push (xC w) }
   refine codeAny_mono (codeAny_call_builtin (R:=wants (λ r s₂=>r=.none/\∃ h' tk xs,s₂={ s with heap:=h',toks:=tk }/\uA prog w h' s.heap.objs.size xs (uu w)/\Up its rows its.size xs/\
     ∀ b o,b<s.heap.objs.size->s.heap.get? b=some o->h'.get? b=some o) E) F.called_set.init.plain F.entry_set_init (check_set_init_1 hTy ?_)) λ r₂ s₂ hr₂=>?_
   .obtain⟨⟨ocls,odict,odata,oslots⟩,hol,hcl,nl,hdl⟩:=id hl;simp only at hcl hdl;subst hcl hdl;have hol1:(s.heap.push (xC w)).get? l=some { cls:=.type "list",dict:=odict,data:=.seq its nl,slots:=oslots }:=zHp _ hol;have sls:=F.sub_list_set;have slf:=F.sub_list_frozenset;have nd:(Value.type "list" == Value.type "dict")=false:=by decide
    have hl1:(s.heap.push (xC w)).IsList l its:=⟨_,hol1,rfl,nl,rfl⟩
    unfold Builtin.«set.__init__» noKeywords Builtin.Frozenset.updateFrom;generalize hPI:pyIter=PI;unfold xC at *
    wp_walk
    subst hPI;refine wpAny_pyIter_list hl1 (zWb (wpAny_runValue ?_));have hlS:l<s.heap.objs.size:=Heap.lt_size hol;have hsz:(s.heap.push (xC w)).objs.size=s.heap.objs.size+1:=Heap.size_push _ _;have hneI:l≠(s.heap.push (xC w)).objs.size:=by rw[hsz];exact Nat.ne_of_lt (Nat.lt_succ_of_lt hlS)
    have szne:s.heap.objs.size≠(s.heap.push (xC w)).objs.size:=by rw[hsz];exact Nat.ne_of_lt (Nat.lt_succ_self _)
    have low:∀ b:Addr,b<s.heap.objs.size->b≠(s.heap.push (xC w)).objs.size:=λ b hb=>by rw[hsz];exact Nat.ne_of_lt (Nat.lt_succ_of_lt hb)
    have tin:∀ (i:Nat) b,its[i]?=some (.ref b)->b<s.heap.objs.size:=λ i b hb=>by
     obtain⟨b',r,e,_,o,_,_,ho,_⟩:=hT i _ hb;cases e;exact Heap.lt_size ho
    refine Qa (A:=A.in1.in1) (P:=λ i v=>its[i]?=some v) ((Walks.list (A:=A.in1.in1.in1) (by simp[hh]) _ l hneI its).toS) s.heap.objs.size ?_ (its:=its) (rows:=rows) (λ _ _ q=>q) hn (show A.units+1+1+1<cLine by omega) (uu w) ?_ its.size 0 _ [] (by omega) (Nat.zero_le _)
     ⟨⟨_,Heap.get?_push_size _ rfl,rfl,rfl⟩,hl1.push _⟩ (V7 (w:=w) (zHp _ hS)) (hT.at λ i b _ o e=>zHp _ (zHp _ e)) ⟨λ e he=>(by cases he),λ j r hj=>(by omega)⟩ ?_
    .intro hm;rcases List.mem_cons.mp hm with q | q
     .exact szne q
     .exact Nat.ne_of_gt hlS (List.mem_singleton.mp q)
    .intro i b hb hm;have hlt:=tin i b hb;rcases List.mem_cons.mp hm with q | q
     .exact Nat.ne_of_lt hlt q
     .exact low b hlt (List.mem_singleton.mp q)
    .intro s' xs' hm S' U';obtain⟨h',g',d',tk',os'⟩:=s';obtain rfl:g'=s.gens:=hm.gens;obtain rfl:d'=s.drawn:=hm.drawn;obtain rfl:os'=s.os:=hm.os;refine wpAny_pure (wpAny_pure ⟨rfl,h',tk',xs',rfl,S',U',λ b o hb e=>?_⟩);refine hm.heap b o (λ q=>?_) (zHp _ (zHp _ e));rcases List.mem_cons.mp q with q | q
     .exact Nat.ne_of_lt hb q
     .exact low b hb (List.mem_singleton.mp q)
   .cases r₂ with
    | error e=>exact hr₂
    | ok fl₂=>
     cases fl₂ with
     | ret r=>
      obtain⟨rfl,h',tk,xs,rfl,g1,g2,g3⟩:=hr₂
      repeat (any_goals (first | assumption | wp_step))
      exact h h' tk xs g1 g2 g3
     | _=>exact hr₂.elim
  | _=>exact hr.elim
end
end ST
namespace ST
open PySem PySem.SetTable
section facts
set_option maxRecDepth 100000
theorem ag:Manifest.owners.lookup (String.ofList ['r','o','t','a','r','e','t','i','_','t','e','s'].reverse)=some Manifest.sig_set_iterator:=by kernel_rfl
theorem p_:Slot "set_iterator" "__next__" "set_iterator.__next__":=
 .of (owner:="set_iterator") (n:="__next__") (by rw[typeLookup_type,builtinLookup_eq_fast];kernel_rfl) (by decide +kernel) (by decide +kernel) (by decide +kernel) (by first | exact .inl (by decide +kernel) | exact .inr (by decide +kernel)) (by rw[isSubtype_type];kernel_rfl)
theorem ZQ:entryFor table "set_iterator.__next__"=some Builtin.«set_iterator.__next__»:=entryFor_of_tree (by kernel_rfl)
theorem YO (a:Value):argsOk "set_iterator.__next__" ⟨[a],[]⟩:=by
 unfold argsOk;rw[signature?_of (id:="set_iterator.__next__") (n:=['_','_','t','x','e','n','_','_']) (o:=['r','o','t','a','r','e','t','i','_','t','e','s']) (by kernel_rfl) ag]
 kernel_rfl
theorem PB:entryFor table "set.__iter__"=some Builtin.«frozenset.__iter__»:=entryFor_alias (id':="frozenset.__iter__") (by kernel_rfl) rfl (by decide +kernel) (by kernel_rfl)
theorem cR:Slot "set_iterator" "__iter__" "set_iterator.__iter__":=
 .of (owner:="set_iterator") (n:="__iter__") (by rw[typeLookup_type,builtinLookup_eq_fast];kernel_rfl) (by decide +kernel) (by decide +kernel) (by decide +kernel) (by first | exact .inl (by decide +kernel) | exact .inr (by decide +kernel)) (by rw[isSubtype_type];kernel_rfl)
theorem P0:entryFor table "set_iterator.__iter__"=some Builtin.«dict_keyiterator.__iter__»:=entryFor_alias (id':="dict_keyiterator.__iter__") (by kernel_rfl) rfl (by decide +kernel) (by kernel_rfl)
theorem Ng (a:Value):argsOk "set_iterator.__iter__" ⟨[a],[]⟩:=by
 unfold argsOk;rw[signature?_of (id:="set_iterator.__iter__") (n:=['_','_','r','e','t','i','_','_']) (o:=['r','o','t','a','r','e','t','i','_','t','e','s']) (by kernel_rfl) ag]
 kernel_rfl
end facts
end ST
namespace ST
open PySem PySem.SetTable
theorem ZM {α:Type}:∀ (l:List α) (i:Nat) (x:α),l[i]?=some x->l.Perm (x::l.eraseIdx i)
 | [],i,x,h=>by simp at h
 | y::l,0,x,h=>by simp at h;subst h;simp
 | y::l,i+1,x,h=>by
  have ih:=ZM l i x (by simpa using h);rw[List.eraseIdx_cons_succ];exact (ih.cons y).trans (.swap x y _)
theorem bH {α:Type}(next:Nat->Nat):∀ (f k:Nat) (left:List α) (out:Array α),left.length=f->(pickOrder.go next f k left out).toList.Perm (out.toList++left)
 | 0,k,left,out,h=>by
  cases left with
  | nil=>unfold pickOrder.go;simp
  | cons _ _=>simp at h
 | f+1,k,left,out,h=>by
  unfold pickOrder.go;have hlt:next k%left.length<left.length:=Nat.mod_lt _ (by omega);rw[List.getElem?_eq_getElem hlt];dsimp only;refine (bH next f (k+1) _ _ (by rw[List.length_eraseIdx_of_lt hlt];omega)).trans ?_;rw[Array.toList_push,List.append_assoc];exact (ZM left _ _ (List.getElem?_eq_getElem hlt)).symm.append_left _
theorem UA {α:Type}(next:Nat->Nat) (xs:Array α):(pickOrder next xs).toList.Perm xs.toList:=by
 unfold pickOrder;simpa using bH next xs.size 0 xs.toList #[] (by simp)
noncomputable def comes (w:World) (a:Addr) (es:Array (Int×Value)) (ep:Nat):Array (Int×Value):=if w.params.followText "set-order"=true then pickOrder (w.params.setOrder a ep) es else es
theorem oU (w:World) (a:Addr) (es:Array (Int×Value)) (ep:Nat):(comes w a es ep).toList.Perm es.toList:=by
 unfold comes;split
 .exact UA _ _
 .exact .refl _
noncomputable def qp (a:Addr) (slot i n ep:Nat):Obj:={ cls:=.type "set_iterator",data:=.fields #[rawInt slot,rawInt i,.ref a,rawInt n,rawInt ep] }
noncomputable def slotAt (t:SetTable):Nat->Nat
 | 0=>0
 | i+1=>t.place.getD i 0+1
theorem Nc {t:SetTable}(hr:tU t.place.toList):∀ i,i<=t.place.size->below t.place (slotAt t i)=i
 | 0,_=>by
  obtain⟨h1,h2,h3⟩:=jA (xs:=t.place) (j:=0) hr;rcases Nat.eq_zero_or_pos (below t.place 0) with q | q
  .exact q
  .have:=h2 0 (by omega) q;omega
 | i+1,hi=>by
  have hd:t.place.getD i 0=t.place[i]:=fK (by omega);show below t.place (t.place.getD i 0+1)=i+1;rw[hd];obtain⟨h1,h2,h3⟩:=jA (xs:=t.place) (j:=t.place[i] + 1) hr;have vt:∀ a b (ha:a<t.place.size) (hb:b<t.place.size),a<b->t.place[a]<t.place[b]:=λ a b ha hb hab=>by
   have r:=List.pairwise_iff_getElem.mp hr a b (by simpa using ha) (by simpa using hb) hab;rw[Array.getElem_toList,Array.getElem_toList] at r;exact r
  rcases Nat.lt_trichotomy (below t.place (t.place[i] + 1)) (i+1) with q | q | q
  .have:=h3 i (by omega) (by omega);omega
  .exact q
  .have a:=h2 (i+1) (by omega) q;have b:=vt i (i+1) (by omega) (by omega) (by omega);omega
structure v7 (w:World) (h:Heap) (a:Addr) (es:Array (Int×Value)) (ep:Nat) (t:SetTable):Prop where
 get:h.get? a=some { cls:=.type "set",dict:=none,data:=.set es ep t }
 fits:t.fits es.size=true
 vt:tU t.place.toList
 led:t.led=uu w
 plain:t.plain=true
theorem v7.size {w:World}{h:Heap}{a:Addr}{es:Array (Int×Value)}{ep:Nat}{t:SetTable}(S:v7 w h a es ep t):t.place.size=es.size:=by
 have:=S.fits;simp only[SetTable.fits,Bool.and_eq_true,beq_iff_eq] at this;exact this.1
section
variable {prog:Program}{w:World}{A:Around}{E:Value->Shared->Prop}{s:Shared}
theorem aJ {a:Addr}{es:Array (Int×Value)}{ep:Nat}{t:SetTable}{i:Nat}{Q:Option (Value×Nat)->Shared->Prop}(S:v7 w s.heap a es ep t) (hi:i<=es.size) (slot:Nat) (hs:w.params.followText "set-order"=false->slot=slotAt t i)
  (h:∀ slot',(w.params.followText "set-order"=false->slot'=slotAt t (i+1))->Q ((comes w a es ep)[i]?.map λ e=>(e.2,slot')) s):wpAny (model prog w) A (setNext a slot i ep) Q E s:=by
 unfold setNext setsByText;refine zWb (wpAny_setState_of S.get rfl S.fits ?_);dsimp only;refine zWb (zWb (wpAny_askSetting (wpAny_pure ?_)));show wpAny _ A (if w.params.followText "set-order"=true then _ else _) Q E s;cases hb:w.params.followText "set-order" with
 | true=>
  rw[if_pos rfl,if_neg (by simp)];unfold setWalk setsByText;refine zWb (zWb (wpAny_setState_of S.get rfl S.fits ?_));dsimp only;refine zWb (zWb (wpAny_askSetting (wpAny_pure ?_)));show wpAny _ A (if w.params.followText "set-order"=true then _ else _) _ E s;rw[if_pos hb];refine zWb (wpAny_askSetting (wpAny_pure ?_));refine wpAny_pure ?_;have:=h slot (λ q=>by rw[hb] at q;cases q);unfold comes at this;rw[if_pos hb] at this;exact this
 | false=>
  rw[if_neg (by simp)];split
  .rename_i hd;have hd':(!t.plain&&decide (es.size>1))=true:=hd;rw[S.plain] at hd';simp at hd'
  .show wpAny _ A ((if (!t.led&&!es.isEmpty)=true then unsupported "set:maker-not-led" else pure ()) >>= _) Q E s;have hl:t.led=true:=by rw[S.led];unfold uu;rw[hb];rfl
   rw[if_neg (by rw[hl];simp)];refine zWb (wpAny_pure (wpAny_pure ?_));have hsl:=hs hb;have hz:=S.size;rw[hsl,Nc S.vt i (by rw[hz];exact hi)];have:=h (slotAt t (i+1)) (λ _=>rfl);unfold comes at this;rw[if_neg (by rw[hb];simp)] at this;rcases Nat.lt_or_ge i es.size with q | q
   .have hp:i<t.place.size:=by rw[hz];exact q
    rw[Array.getElem?_eq_getElem q] at this;rw[Array.getElem?_eq_getElem q,Array.getElem?_eq_getElem hp];have e:slotAt t (i+1)=t.place[i] + 1:=by show t.place.getD i 0+1=_;rw[fK hp]
    rw[e] at this;exact this
   .rw[Array.getElem?_eq_none q] at this;rw[Array.getElem?_eq_none q];exact this
theorem pz {a I:Addr}{slot i n ep:Nat}(ho:s.heap.get? I=some (qp a slot i n ep)):s.TypeIs (.ref I) "set_iterator":=⟨_,ho,rfl⟩
theorem cA (k:Nat):((k:Int)).toNat=k:=Int.toNat_natCast k
theorem V5 {I a:Addr}{es:Array (Int×Value)}{ep:Nat}{t:SetTable}{i slot:Nat}{e:Int×Value}{Q:Option Value->Shared->Prop}(ho:s.heap.get? I=some (qp a slot i es.size ep)) (S:v7 w s.heap a es ep t) (hs:w.params.followText "set-order"=false->slot=slotAt t i) (he:(comes w a es ep)[i]?=some e)
  (hi:i<es.size) (h:∀ h' slot',(w.params.followText "set-order"=false->slot'=slotAt t (i+1))->h'.get? I=some (qp a slot' (i+1) es.size ep)->Heap.SameBut I s.heap h'->Q (some e.2) { s with heap:=h' }):wpAny (model prog w) A (pyNext (.ref I)) Q E s:=by
 unfold pyNext;refine zWb (wpAny_attempt (wpAny_callSpecial?_slot (name:=Str.ofString "__next__") (pz ho) p_ (wpAny_call_entry p_ (pz ho) ZQ ?_ (YO _))));refine zWb (wpAny_pure ?_);dsimp only;refine zWb (wpAny_fieldsOf ho rfl ?_);dsimp only[rawInt];refine zWb (zWb (wpAny_setState_of S.get rfl S.fits (wpAny_pure ?_)));rw[if_neg (by simp)];refine zWb (aJ S (by omega) slot hs λ slot' hs'=>?_);rw[cA] at hs' ⊢;rw[he];dsimp only[Option.map_some];refine zWb (wpAny_setField ho rfl (by simp) ?_);have o1:=Heap.get?_update_self (Obj.mapFields (·.set! 0 (Value.int (slot':Int) 0))) ho rfl;refine zWb (wpAny_setField o1 rfl (by simp) ?_);have o2:=Heap.get?_update_self (Obj.mapFields (·.set! 1 (Value.int ((i:Int)+1) 0))) o1 rfl;refine wpAny_pure ⟨_,rfl,wpAny_pure (h _ slot' hs' o2 ((Heap.SameBut.update ..).trans (Heap.SameBut.update ..)))⟩
theorem V6 {I a:Addr}{es:Array (Int×Value)}{ep:Nat}{t:SetTable}{slot:Nat}{Q:Option Value->Shared->Prop}(hh:A.handled=none) (ho:s.heap.get? I=some (qp a slot es.size es.size ep)) (S:v7 w s.heap a es ep t) (hs:w.params.followText "set-order"=false->slot=slotAt t es.size)
  (h:∀ h',Heap.ExtBut I s.heap h'->Q none { s with heap:=h' }):wpAny (model prog w) A (pyNext (.ref I)) Q E s:=by
 have hn:(comes w a es ep)[es.size]?=none:=by
  have:=(oU w a es ep).length_eq;simp only[Array.length_toList] at this;rw[Array.getElem?_eq_none (by omega)]
 unfold pyNext;refine zWb (wpAny_attempt (wpAny_callSpecial?_slot (name:=Str.ofString "__next__") (pz ho) p_ (wpAny_call_entry p_ (pz ho) ZQ ?_ (YO _))));refine zWb (wpAny_pure ?_);dsimp only;refine zWb (wpAny_fieldsOf ho rfl ?_);dsimp only[rawInt];refine zWb (zWb (wpAny_setState_of S.get rfl S.fits (wpAny_pure ?_)));rw[if_neg (by simp)];refine zWb (aJ S (by simp) slot (by simpa using hs) λ slot' hs'=>?_);rw[cA,hn];dsimp only[Option.map_none];refine zWb (wpAny_setField ho rfl (by simp) ?_);refine zWb ?_;simp only[newExc,newTuple];refine zWb (wpAny_newObj_type ?_ (by size_fits));refine zWb (m:=firstArgMember _ _) (wpAny_of_eq (a:=Value.none) (by first | rfl | (simp only[firstArgMember];rfl)) (wpAny_newObj_type ?_ (by size_fits)));unfold raiseNew;refine zWb (wpAny_handled ?_);rw[show A.in1.handled=none from hh];refine zWb ((wpAny_pure (wpAny_throw ?_)));refine zWb ((wpAny_isInstance (T:="StopIteration") (b:=true) ⟨_,Heap.get?_push_size _ rfl,rfl⟩ isSubtype_stop ?_));exact wpAny_pure (h _ (((Heap.SameBut.update ..).extBut.push _).push _))
theorem V4 {I a:Addr}{slot i n ep:Nat}{Q:Value->Shared->Prop}(ho:s.heap.get? I=some (qp a slot i n ep)) (h:Q (.ref I) s):wpAny (model prog w) A (pyIter (.ref I)) Q E s:=by
 refine wpAny_pyIter_slot (pz ho) cR (wpAny_call_entry cR (pz ho) P0 ?_ (Ng _));exact wpAny_pure ⟨_,rfl,"set_iterator",_,pz ho,p_.lookup,h⟩
theorem v7.keep {h h':Heap}{a:Addr}{es:Array (Int×Value)}{ep:Nat}{t:SetTable}(S:v7 w h a es ep t) (k:∀ o,h.get? a=some o->h'.get? a=some o):v7 w h' a es ep t:=⟨k _ S.get,S.fits,S.vt,S.led,S.plain⟩
theorem W2 (hh:A.handled=none) (I a:Addr) (hne:a≠I) (es:Array (Int×Value)) (ep:Nat) (t:SetTable):
  Walks prog w A I [I,a] [I] es.size (λ i v=>∃ e,(comes w a es ep)[i]?=some e/\v=e.2) (λ i h=>(∃ slot,(w.params.followText "set-order"=false->slot=slotAt t i)/\h.get? I=some (qp a slot i es.size ep))/\v7 w h a es ep t) where
 sub:=λ b hb=>by simp at hb;simp[hb]
 frame:=λ _ _ _ st k=>by
  obtain⟨⟨slot,h1,h2⟩,S⟩:=st;exact⟨⟨slot,h1,k I (by simp) _ h2⟩,S.keep λ o e=>k a (by simp) o e⟩
 item:=λ i s Q E hi st hQ=>by
  obtain⟨⟨slot,h1,h2⟩,S⟩:=st;have hl:i<(comes w a es ep).size:=by
   have:=(oU w a es ep).length_eq;simp only[Array.length_toList] at this;omega
  refine V5 h2 S h1 (Array.getElem?_eq_getElem hl) hi λ h' slot' g1 g2 g3=>?_;exact hQ _ h' s.toks ⟨_,Array.getElem?_eq_getElem hl,rfl⟩ ⟨⟨slot',g1,g2⟩,S.keep λ o e=>(g3.2 a hne).trans e⟩ λ b o hb e=>(g3.2 b (λ z=>hb (by simp[z]))).trans e
 done:=λ s Q E st hQ=>by
  obtain⟨⟨slot,h1,h2⟩,S⟩:=st;exact V6 hh h2 S h1 λ h' g=>hQ h' s.toks λ b o hb e=>g b o (λ z=>hb (by simp[z])) e
 self:=λ _ _ _ _ st hQ=>by
  obtain⟨⟨slot,h1,h2⟩,S⟩:=st;exact V4 h2 hQ
end
end ST
namespace ST
open PySem PySem.SetTable
section
variable {prog:Program}{w:World}{A:Around}{E:Value->Shared->Prop}{s:Shared}
theorem Qd:typeLookup (.type "set") "__len__"=pure (some (.builtin "set.__len__")):=F.slot_set_len.lookup
theorem split_len:splitId "set.__len__"=some ("set","__len__"):=by decide +kernel
theorem RE {a:Addr}{es:Array (Int×Value)}{ep:Nat}{t:SetTable}{Q:Bool->Shared->Prop}(S:v7 w s.heap a es ep t) (h:Q false s):wpAny (model prog w) A (setDrawn a) Q E s:=by
 unfold setDrawn setsByText;refine zWb (wpAny_setState_of S.get rfl S.fits ?_);dsimp only;refine zWb (zWb (wpAny_askSetting (wpAny_pure (wpAny_pure ?_))));show Q (!w.params.followText "set-order"&&(!t.plain&&decide (es.size>1))) s;rw[S.plain];simpa using h
set_option maxRecDepth 100000 in
set_option maxHeartbeats 4000000 in
theorem RH {a:Addr}{es:Array (Int×Value)}{ep:Nat}{t:SetTable}{Q:Bool->Shared->Prop}(S:v7 w s.heap a es ep t) (h:Q false s):wpAny (model prog w) A (Builtin.List.listLengthHint (.ref a)) Q E s:=by
 have Ty:s.TypeIs (.ref a) "set":=⟨_,S.get,rfl⟩
 unfold Builtin.List.listLengthHint;refine zWb (wpAny_specialOf Ty Qd ?_);dsimp only;rw[split_len];dsimp only;refine zWb (wpAny_isInstance (b:=true) Ty sub_set_self ?_);rw[if_neg (by decide)];rw[if_pos (by decide +kernel)];refine zWb (wpAny_typeOf Ty ?_);exact wpAny_pure h
set_option maxRecDepth 100000 in
set_option maxHeartbeats 4000000 in
theorem Ov {a:Addr}{es:Array (Int×Value)}{ep:Nat}{t:SetTable}{Q:List Value->Shared->Prop}(hh:A.handled=none) (S:v7 w s.heap a es ep t) (hn:es.size<=sizeLine)
  (h:∀ (h':Heap) (tk:Nat),(∀ b o,b<s.heap.objs.size->s.heap.get? b=some o->h'.get? b=some o)->s.heap.objs.size<=h'.objs.size->Q ((comes w a es ep).toList.map (·.2)) { s with heap:=h',toks:=tk }):wpAny (model prog w) A (collect (.ref a)) Q E s:=by
 have ha:a<s.heap.objs.size:=Heap.lt_size S.get;unfold collect;refine zWb (wpAny_runValue (codeAny_builtin F.entry_proto_collect ?_));rw[Around.under_plainId F.plain_proto_collect _];show wpAny _ A.in1 (newList [] >>= λ l=>again (.builtin "list.__iadd__" ⟨[l,.ref a],[]⟩)) _ _ s;refine zWb (wpAny_newObj_type (wpAny_pure ⟨plainId_quiet F.plain_list_iadd _,codeAny_builtin F.entry_list_iadd ?_⟩));rw[Around.under_plainId F.plain_list_iadd _]
 let L0:Obj:={ cls:=.type "list",data:=.seq ([]:List Value).toArray }
 have S1:v7 w (s.heap.push L0) a es ep t:=S.keep λ o e=>zHp _ e;have T1:Shared.TypeIs { s with heap:=s.heap.push L0 } (.ref a) "set":=⟨_,S1.get,rfl⟩
 show wpAny _ A.in1 (Builtin.List.listExtendWith (.ref s.heap.objs.size) (.ref a) (.ref s.heap.objs.size)) _ _ { s with heap:=s.heap.push L0 };unfold Builtin.List.listExtendWith;refine zWb (wpAny_typeOf T1 ?_);have hne:s.heap.objs.size≠a:=Nat.ne_of_gt ha;have c1:Builtin.List.listSameRef (.ref s.heap.objs.size) (.ref a)=false:=by simp[Builtin.List.listSameRef,hne]
 rw[if_neg (by rw[c1];decide)];refine zWb (wpAny_pyIter_slot T1 F.slot_set_iter (wpAny_call_entry F.slot_set_iter T1 PB ?_ (F.args_set_iter_1 _)));refine zWb (zWb (wpAny_pure (wpAny_pure ?_)));refine zWb (zWb (zWb (wpAny_setState_of S1.get rfl S1.fits (wpAny_pure (wpAny_pure ?_)))));refine zWb (RE S1 ?_);rw[if_neg (by decide)];refine zWb (wpAny_pure ?_);refine zWb (wpAny_setEpoch_of S1.get rfl S1.fits ?_);refine zWb (wpAny_newObj_type (wpAny_pure ⟨_,rfl,"set_iterator",_,⟨_,Heap.get?_push_size _ rfl,rfl⟩,p_.lookup,?_⟩))
 let I:=(s.heap.push L0).objs.size
 let h2:=(s.heap.push L0).push (qp a 0 0 es.size ep)
 have S2:v7 w h2 a es ep t:=S1.keep λ o e=>zHp _ e;have hI:h2.get? I=some (qp a 0 0 es.size ep):=Heap.get?_push_size _ rfl;have hL:h2.get? s.heap.objs.size=some L0:=zHp _ (Heap.get?_push_size _ rfl);have hsz:(s.heap.push L0).objs.size=s.heap.objs.size+1:=Heap.size_push _ _;show wpAny _ A.in1 _ _ _ { s with heap:=h2 };refine zWb (wpAny_holding (RH (s:={ s with heap:=h2 }) S2 ?_));rw[if_pos (by decide +kernel)];refine zWb (wpAny_rule ?_);refine zWb ?_;show wpAny _ A.in1 (updateSeq s.heap.objs.size (·.push .none) >>= λ _=>updateSeq s.heap.objs.size (·.pop)) _ _ { s with heap:=h2 };refine zWb (wpAny_updateSeq hL rfl ?_);have hL2:=Heap.get?_update_self (Obj.mapSeq (·.push Value.none)) hL rfl;refine wpAny_updateSeq hL2 rfl ?_;have hL3:=Heap.get?_update_self (Obj.mapSeq (·.pop)) hL2 rfl
 let h3:=(h2.update s.heap.objs.size (Obj.mapSeq (·.push Value.none))).update s.heap.objs.size (Obj.mapSeq (·.pop))
 have oth:∀ b o,b≠s.heap.objs.size->h2.get? b=some o->h3.get? b=some o:=λ b o hb e=>(Heap.get?_update_other _ _ (Ne.symm hb)).trans ((Heap.get?_update_other _ _ (Ne.symm hb)).trans e);have haI:a≠I:=by show a≠(s.heap.push L0).objs.size;rw[hsz];exact Nat.ne_of_lt (Nat.lt_succ_of_lt ha)
 have hIn:I≠s.heap.objs.size:=by show (s.heap.push L0).objs.size≠_;rw[hsz];exact Nat.ne_of_gt (Nat.lt_succ_self _)
 refine wpAny_pure ⟨plainId_quiet F.plain_extend_loop _,codeAny_extend_loopS ((W2 (A:=A.in1) hh I a haI es ep t).toS) hn s.heap.objs.size ?_ _ es.size 0 { s with heap:=h3 } #[] _ rfl (Nat.zero_le _) ⟨⟨0,λ _=>rfl,oth I _ hIn hI⟩,S2.keep λ o e=>oth a o (Ne.symm hne) e⟩ hL3 (ItemsOf.nil _) λ s' acc c' hm hS' hacc=>?_⟩
 .intro hm;rcases List.mem_cons.mp hm with q | q
  .exact hIn q.symm
  .exact hne (List.mem_singleton.mp q)
 .refine zWb (wpAny_load hS' (wpAny_pure ?_));obtain⟨h',g',d',tk',os'⟩:=s';obtain rfl:g'=s.gens:=hm.gens;obtain rfl:d'=s.drawn:=hm.drawn;obtain rfl:os'=s.os:=hm.os;have hcm:(comes w a es ep).size=es.size:=by
   have:=(oU w a es ep).length_eq;simpa using this
  have e:acc.toList=(comes w a es ep).toList.map (·.2):=by
   refine List.ext_getElem? λ j=>?_;rw[List.getElem?_map];rcases Nat.lt_or_ge j es.size with q | q
   .have hjl:j<acc.size:=by rw[hacc.1];exact q
    have hj:acc[j]?=some acc[j]:=Array.getElem?_eq_getElem hjl;obtain⟨e,e1,e2⟩:=hacc.2 j _ hj;rw[Array.getElem?_toList,Array.getElem?_toList,hj,e1,e2];rfl
   .rw[Array.getElem?_toList,Array.getElem?_toList,Array.getElem?_eq_none (by rw[hacc.1];exact q),Array.getElem?_eq_none (by rw[hcm];exact q)];rfl
  rw[e];refine h h' tk' (λ b o hb e=>hm.heap b o (λ q=>?_) (oth b o (Nat.ne_of_lt hb) (zHp _ (zHp _ e)))) ?_
  .rcases List.mem_cons.mp q with q | q
   .exact Nat.ne_of_lt hb q
   .have q':b=(s.heap.push L0).objs.size:=List.mem_singleton.mp q;rw[hsz] at q';exact Nat.ne_of_lt (Nat.lt_succ_of_lt hb) q'
  .exact Nat.le_of_lt (Heap.lt_size hS')
end
end ST
namespace ST
open PySem PySem.SetTable PyProof.Rows L4
section
variable {prog:Program}{w:World}{A:Around}{E:Value->Shared->Prop}{s:Shared}
theorem cH {a:Addr}{es:Array (Int×Value)}{ep:Nat}{t:SetTable}{Q:Value->Shared->Prop}{Out:Array Value->Prop}(hh:A.handled=none) (S:v7 w s.heap a es ep t) (hz:es.size<=sizeLine)
  (core:∀ s6:Shared,2<=es.size->(∀ b o,s.heap.get? b=some o->s6.heap.get? b=some o)->Core prog w A.in1.in1 E ((comes w a es ep).toList.map (·.2)) Out s6) (short:es.size<2->Out ((comes w a es ep).toList.map (·.2)).toArray)
  (fin:∀ (out:Array Value) (h':Heap) (tk l:Nat),Out out->out.size=es.size->s.heap.objs.size<=l->(∀ b o,s.heap.get? b=some o->h'.get? b=some o)->(∃ e,h'.get? l=some (seqObj "list" out e))->Q (.ref l) { s with heap:=h',toks:=tk }):
  wpAny (model prog w) A (call (.builtin "sorted") [.ref a]) Q E s:=by
 have hcl:((comes w a es ep).toList.map (·.2)).length=es.size:=by
  have:=(oU w a es ep).length_eq;rw[List.length_map,this,Array.length_toList]
 refine Calls.call_function_entry kind_sorted plain_sorted entry_sorted (args_sorted1 _) ?_;unfold Builtin.«sorted»;refine zWb (m:=checkCount "sorted" 1 1 _) (wpAny_pure (zWb (Ov (A:=A.in1) hh S hz λ h1 tk k1 k2=>zWb (wpAny_newList ?_ (by rw[hcl];exact hz)))));generalize hvs:(comes w a es ep).toList.map (·.2)=vs at *;have hoL:(h1.push (seqObj "list" vs.toArray 0)).get? h1.objs.size=some (seqObj "list" vs.toArray 0):=Heap.get?_push_size _ rfl;have k3:∀ b o,s.heap.get? b=some o->h1.get? b=some o:=λ b o q=>k1 b o (Heap.lt_size q) q;show wpAny _ _ _ _ _ { s with heap:=h1.push (seqObj "list" vs.toArray 0),toks:=tk };refine zWb (wpAny_holding (wpAny_call_entry slot_list_sort ⟨_,hoL,rfl⟩ entry_list_sort (fg hoL (by rw[hcl];exact hz) (λ h2 s6 k=>core s6 (by rw[<- hcl];exact h2) λ b o q=>k b o ?_ (zHp _ (k3 b o q))) (λ h2=>short (by rw[<- hcl];exact h2)) λ out g1 g2=>⟨_,rfl,?_⟩) (args_list_sort _)))
 .exact Nat.ne_of_lt (Nat.lt_of_lt_of_le (Heap.lt_size q) k2)
 .refine wpAny_pure ⟨_,rfl,fin out _ tk h1.objs.size g1 (by rw[g2,hcl]) k2 (λ b o q=>?_) (sortedHeap_at (n:=0) hoL)⟩;have hlt:b<h1.objs.size:=Heap.lt_size (k3 b o q);rw[sortedHeap_old (Nat.ne_of_lt hlt) (by rw[size_push'];exact Nat.lt_succ_of_lt hlt),Heap.get?_push_ne _ _ _ (Nat.ne_of_lt hlt)];exact k3 b o q
end
end ST
namespace ST
open PySem PySem.SetTable PySem.Spec PyProof.Rows L2
def xo (w:World) (a:Addr) (us:List Value):Heap->Prop:=λ h=>∃ es ep t,v7 w h a es ep t/\es.toList.map (·.2)=us
theorem xo.ra {w:World}{a:Addr}{us:List Value}{h1 h2:Heap}(S:xo w a us h1) (k:∀ o,h1.get? a=some o->h2.get? a=some o):xo w a us h2:=by
 obtain⟨es,ep,t,S,e⟩:=S;exact⟨es,ep,t,S.keep k,e⟩
theorem uA.at {prog:Program}{w:World}{h:Heap}{a:Addr}{xs:List (List Int×Addr)}(S:uA prog w h a xs (uu w)):xo w a (xs.map λ e=>Value.ref e.2) h:=by
 obtain⟨⟨es,ep,t,ho,X,h1,h2,h3⟩,_⟩:=S;exact⟨es,ep,t,⟨ho,X.fits,X.tab.vt,h1,h2⟩,by rw[X.es,List.map_map];rfl⟩
section
variable {X:Cx}
abbrev jJ (K:PySem.W.Frag) (H:Hp) (ys:List V) (rows:List (List Int)):Prop:=Paired (λ v r=>r≠[]/\∃ b,v=V.ref b/\ym K H b (r.map V.int)) ys rows
theorem Zi:∀ {ns:List Int}{us:List Value},Vals (ns.map V.int) us->∀ {prog:Program}{w:World},ItemsAre (intKind prog w) ns us
 | [],_,.nil,_,_=>.nil
 | n::ns,_,.cons r t,prog,w=>by
  obtain⟨tk,rfl⟩:=r;exact .cons (intKind_is _ _ _ _) (Zi t)
structure pO (ys:List V) (rows:List (List Int)) (vs:List V) (rs:List (List Int)):Prop where
 sub:∀ (i:Nat) v r,vs[i]?=some v->rs[i]?=some r->∃ (j:Nat),ys[j]?=some v/\rows[j]?=some r
 len:vs.length=rs.length
 nd:rs.Nodup
 all:∀ r∈rows,r∈rs
theorem OB (hc:X.calm=true) (hu:X.A.units+64<cLine):y_ X (.type "set") (λ xs H Q=>∃ p ys,∃ rows:List (List Int),xs=[.ref p]/\yf X.K H p ys/\jJ X.K H ys rows/\rows.length<64/\
  ∀ (l:Addr) (us:List Value) (vs:List V) (rs:List (List Int)),H l=none->Vals vs us->pO ys rows vs rs->Q (.ref l) (upd H l (.ext (xo X.w l us)))):=by
 intro pins s σ H xs us Q I r h;obtain⟨p,ys,rows,rfl,hq,hr,h64,q⟩:=h;obtain⟨u,rfl,ru⟩:=vals1 r;cases ru;obtain⟨its,rv,pl,hz⟩:=I.list hq;have hl:=rv.length;have hlr:ys.length=rows.length:=Paired.length hr;have tZ:pL X.prog X.w s.heap its.toArray rows:=λ i v hv=>by
  have hv':its[i]?=some v:=by simpa using hv
  have hi:i<its.length:=(List.getElem?_eq_some_iff.mp hv').1;obtain⟨hne,b,hb,hsq⟩:=L4.Paired.at' hr (i:=i) (by omega) V.zl ([]:List Int);have hy:ys[i]?=some (V.ref b):=by
   rw[List.getElem?_eq_getElem (by omega)];have:ys.getD i V.zl=ys[i]'(by omega):=by simp[show i<ys.length by omega]
   rw[this] at hb;rw[hb]
  obtain⟨v',e1,e2⟩:=rv.get hy;rw[hv'] at e1;cases e1;cases (show v=Value.ref b from e2);obtain⟨its2,rv2,⟨o,e,hcl,n,hd⟩,_⟩:=I.tuple hsq;refine⟨b,rows.getD i [],rfl,?_,o,its2.toArray,n,e,hcl,hd,by simpa using Zi rv2⟩;simp[show i<rows.length by omega]
 have hh:X.A.handled=none:=I.ok.hd hc;refine OE (A:=X.A) hh hu pl.isList tZ (by rw[List.size_toArray];omega) λ h' tk xs S U k=>?_;have kk:∀ b o,s.heap.get? b=some o->h'.get? b=some o:=λ b o e=>k b o (Heap.lt_size e) e;have hfr:H s.heap.objs.size=none:=I.zJ.fresh (Nat.le_refl _);have hSO:=S.at;have vals:Vals (xs.map λ e=>V.ref e.2) (xs.map λ e=>Value.ref e.2):=by
  clear S U hSO
  induction xs with
  | nil=>exact .nil
  | cons e xs ih=>exact .cons rfl ih
 refine⟨.ref s.heap.objs.size,_,I.laid (t':=tk) (o:=.ext (xo X.w s.heap.objs.size (xs.map λ e=>Value.ref e.2))) kk (Nat.le_refl _) ?_,rfl,q _ _ (xs.map λ e=>V.ref e.2) (xs.map (·.1)) hfr vals ⟨λ i v r hv hr'=>?_,by simp,S.nd,λ r hr'=>?_⟩⟩
 .obtain⟨es,ep,t,St,e⟩:=id hSO;exact⟨hSO,⟨_,St.get⟩,λ h1 h2 S1 k=>S1.ra k⟩
 .rw[List.getElem?_map] at hv hr';obtain⟨e,e1,rfl⟩:=zOm hv;rw[e1] at hr';cases hr';obtain⟨j,j1,j2,j3⟩:=U.own e (List.mem_of_getElem? e1);refine⟨j,?_,j3⟩;have hj':its[j]?=some (Value.ref e.2):=by simpa using j2
  have hjl:j<ys.length:=by rw[hl];exact (List.getElem?_eq_some_iff.mp hj').1
  obtain⟨v',e2,e3⟩:=rv.get (List.getElem?_eq_getElem hjl);rw[hj'] at e2;cases e2;obtain⟨hne,b,hb,_⟩:=L4.Paired.at' hr (i:=j) (by omega) V.zl ([]:List Int);have:ys.getD j V.zl=ys[j]:=by simp[hjl]
  rw[this] at hb;rw[hb] at e3;cases (show Value.ref e.2=Value.ref b from e3);rw[List.getElem?_eq_getElem hjl,hb]
 .obtain⟨j,hj⟩:=List.mem_iff_getElem?.mp hr';exact U.all j r (by have:=(List.getElem?_eq_some_iff.mp hj).1;rw[List.size_toArray];omega) hj
theorem Paired.mk {α β:Type}{F:α->β->Prop}:∀ {l:List α}{m:List β},l.length=m.length->(∀ (i:Nat) a b,l[i]?=some a->m[i]?=some b->F a b)->Paired F l m
 | [],[],_,_=>.nil
 | a::l,b::m,h,f=>.cons (f 0 a b rfl rfl) (Paired.mk (by simpa using h) λ i x y hx hy=>f (i+1) x y (by simpa using hx) (by simpa using hy))
 | [],_::_,h,_=>by simp at h
 | _::_,[],h,_=>by simp at h
theorem O9 (hc:X.calm=true):y_ X (.builtin "sorted") (λ xs H Q=>∃ l us vs,∃ rs:List (List Int),xs=[.ref l]/\H l=some (.ext (xo X.w l us))/\Vals vs us/\jJ X.K H vs rs/\rs.length<64/\
  ∀ (p:Addr) (idx:List Nat),H p=none->idx.Perm (List.range vs.length)->(idx.map λ i=>rs.getD i []).Pairwise (λ a b=>HT.lexLt b a=false)->Q (.ref p) (upd H p (.lst (idx.map λ i=>vs.getD i .zl)))):=by
 intro pins s σ H xs us0 Q I r h;obtain⟨l,us,vs,rs,rfl,hl,hv,hr,h64,q⟩:=h;obtain⟨u,rfl,ru⟩:=vals1 r;cases ru;obtain⟨⟨es,ep,t,S,eu⟩,-,-⟩:=(show xM X.prog X.w H s.heap l (.ext (xo X.w l us)) from I.zJ l _ hl)
 have hlen:es.size=us.length:=by rw[<- eu];simp
 have hvl:=hv.length;have hrl:vs.length=rs.length:=Paired.length hr;have hh:X.A.handled=none:=I.ok.hd hc;obtain⟨ix,ix1,ix2⟩:∃ ix:List Nat,ix.Perm (List.range us.length)/\(comes X.w l es ep).toList.map (·.2)=ix.map λ i=>us.getD i Value.none:=by
  have hp:((comes X.w l es ep).toList.map (·.2)).Perm us:=by rw[<- eu];exact (oU X.w l es ep).map _
  generalize (comes X.w l es ep).toList.map (·.2)=cs at hp;clear eu hl hv hvl hlen
  induction hp with
  | nil=>exact⟨[],.refl _,rfl⟩
  | @cons x a b _ ih=>
   obtain⟨ix,i1,i2⟩:=ih;refine⟨0::ix.map (· + 1),?_,?_⟩
   .rw[List.length_cons,List.range_succ_eq_map];exact (i1.map _).cons 0
   .rw[List.map_cons,List.map_map,i2];rfl
  | @swap x y a=>
   refine⟨1::0::(List.range a.length).map (· + 2),?_,?_⟩
   .rw[List.length_cons,List.length_cons,List.range_succ_eq_map,List.range_succ_eq_map,List.map_cons,List.map_map];exact .swap _ _ _
   .rw[List.map_cons,List.map_cons,List.map_map];refine congrArg _ (congrArg _ ?_);refine List.ext_getElem (by simp) λ i h1 h2=>?_;simp[h1]
  | @trans a b c _ _ ih1 ih2=>
   obtain⟨i1,p1,e1⟩:=ih1;obtain⟨i2,p2,e2⟩:=ih2;have hlb:b.length=c.length:=by rw[e2,List.length_map,p2.length_eq];simp
   refine⟨i1.map λ i=>i2.getD i 0,?_,?_⟩
   .refine (p1.map _).trans ?_;have e:(List.range b.length).map (λ i=>i2.getD i 0)=i2:=by
     have hl2:i2.length=b.length:=by rw[p2.length_eq,hlb];simp
     rw[<- hl2];refine List.ext_getElem (by simp) λ i h1 h2=>?_;simp[h2]
    rw[e];exact p2
   .rw[e1,List.map_map];refine List.map_congr_left λ i hi=>?_;have hi':i<b.length:=by simpa using p1.mem_iff.mp hi
    have hl2:i<i2.length:=by rw[p2.length_eq,<- hlb];simpa using hi'
    show b.getD i _=c.getD (i2.getD i 0) _;rw[e2];simp[hl2]
 have hix:∀ i∈ix,i<us.length:=λ i hi=>by simpa using ix1.mem_iff.mp hi
 have rows_at:∀ h6:Heap,(∀ b o,s.heap.get? b=some o->h6.get? b=some o)->L4.rK h6 ((comes X.w l es ep).toList.map (·.2)) (ix.map λ i=>rs.getD i []):=λ h6 k=>by
  rw[ix2];refine Paired.mk (by simp) λ j a b ha hb=>?_;rw[List.getElem?_map] at ha hb;obtain⟨i,hi,rfl⟩:=zOm ha;rw[hi] at hb;cases hb;have hil:=hix i (List.mem_of_getElem? hi);obtain⟨hne,b,hbv,hsq⟩:=L4.Paired.at' hr (i:=i) (by omega) V.zl ([]:List Int);obtain⟨u',e1,e2⟩:=hv.get (i:=i) (x:=vs.getD i V.zl) (by simp[show i<vs.length by omega]);rw[hbv] at e2;cases (show u'=Value.ref b from e2);obtain⟨its2,rv2,⟨o,e,hcl,n,hd⟩,_⟩:=I.tuple hsq;have eg:us.getD i Value.none=Value.ref b:=by simp[e1]
  refine⟨hne,b,o,its2.toArray,n,eg,k _ _ e,hcl,hd,by simpa using intsAre_of rv2⟩
 have hcl:((comes X.w l es ep).toList.map (·.2)).length=us.length:=by rw[ix2,List.length_map,ix1.length_eq];simp
 refine cH (Out:=L4.lE ((comes X.w l es ep).toList.map (·.2)) (ix.map λ i=>rs.getD i [])) hh S (by rw[hlen];have:sizeLine=16777216:=rfl;omega) (λ s6 h2 k=>L4.ej (rows_at _ k) (by rw[hcl,<- hlen];exact h2) (by rw[hcl];omega)) (λ h1=>?_) λ out h' tk p ho hs hp k hat=>?_
 .refine⟨List.range ((comes X.w l es ep).toList.map (·.2)).length,.refl _,?_,?_⟩
  .refine List.ext_getElem (by simp) λ i h1 h2=>?_;simp at h2;simp[h2]
  .rw[List.pairwise_map,List.pairwise_iff_getElem];intro i j hi hj hij;rw[hcl] at hi hj;simp at hi hj;omega
 .obtain⟨idx,g1,g2,g3⟩:=ho;obtain⟨e,he⟩:=hat;rw[hcl] at g1;have hfr:H p=none:=I.zJ.fresh hp;have hidx:∀ i∈idx,i<us.length:=λ i hi=>by simpa using g1.mem_iff.mp hi
  have hxl:ix.length=us.length:=by rw[ix1.length_eq];simp
  let jx:=idx.map λ i=>ix.getD i 0
  have hjp:jx.Perm (List.range vs.length):=by
   rw[hvl];refine (g1.map _).trans ?_;have e:(List.range us.length).map (λ i=>ix.getD i 0)=ix:=by
    rw[<- hxl];refine List.ext_getElem (by simp) λ i h1 h2=>?_;simp[h2]
   rw[e];exact ix1
  have hjr:(jx.map λ i=>rs.getD i [])=idx.map λ i=>(ix.map λ i=>rs.getD i []).getD i []:=by
   rw[List.map_map];refine List.map_congr_left λ i hi=>?_;have:=hidx i hi;simp[show i<ix.length by omega]
  refine⟨.ref p,_,I.laid (t':=tk) (o:=.lst (jx.map λ i=>vs.getD i .zl)) k hp ?_,rfl,q p jx hfr hjp (by rw[hjr];exact g3)⟩;refine⟨by rw[List.length_map,hjp.length_eq,List.length_range];have:sizeLine=16777216:=rfl;omega,out.toList,e,?_,by simpa using he⟩;rw[g2,ix2];refine Paired.mk (by simp[jx]) λ j a b ha hb=>?_;rw[List.getElem?_map] at ha hb;obtain⟨i,hi,rfl⟩:=zOm hb;simp only[jx,List.getElem?_map,hi,Option.map_some,Option.some.injEq] at ha;have hil:=hidx i (List.mem_of_getElem? hi);have hx:ix.getD i 0<us.length:=by
   have:ix.getD i 0∈ix:=by simp[show i<ix.length by omega]
   exact hix _ this
  obtain⟨u',e1,e2⟩:=hv.get (i:=ix.getD i 0) (x:=vs.getD (ix.getD i 0) V.zl) (by
   have hx':ix.getD i 0<vs.length:=by omega
   generalize ix.getD i 0=q at hx';rw[List.getD_eq_getElem?_getD,List.getElem?_eq_getElem hx'];rfl)
  subst ha;have e3:(ix.map λ i=>us.getD i Value.none).getD i Value.none=u':=by
   simp[show i<ix.length by omega] at e1 ⊢;simp[e1]
  rw[e3];exact e2
end
end ST
namespace L5
open PySem PySem.Spec L2 L3
open PyProof.Rows hiding St
noncomputable def vh:List (List Int)->List (List Int)
 | []=>[]
 | r::rs=>if r∈vh rs then vh rs else r::vh rs
theorem oA {r:List Int}:∀ {rs:List (List Int)},r∈vh rs↔r∈rs
 | []=>.rfl
 | x::rs=>by
  unfold vh;split
  .rename_i h;rw[oA,List.mem_cons];exact⟨.inr,λ h'=>h'.elim (λ e=>e▸oA.mp h) id⟩
  .rw[List.mem_cons,List.mem_cons,oA]
theorem gN:∀ rs:List (List Int),(vh rs).Nodup
 | []=>.nil
 | x::rs=>by
  unfold vh;split
  .exact gN rs
  .rename_i h;exact List.nodup_cons.mpr ⟨h,gN rs⟩
theorem kU:∀ rs:List (List Int),(vh rs).length<=rs.length
 | []=>Nat.le_refl _
 | x::rs=>by
  unfold vh;have:=kU rs;split <;> simp only[List.length_cons] <;> omega
def tN:w6:=λ ds S Q=>match ds with
 | [.tup _]=>False
 | [d]=>∃ rows:List (List Int),yw d S=some (rows.map wY)/\rows.length<64/\(∀ r∈rows,r≠[])/\∀ l,S l=none->Q (.ref l) (ups S l (.lst ((L4.wA (vh rows)).map wY)))
 | _=>False
noncomputable def kj:List T->Option T
 | [.lst ts]=>(xH ts).bind λ rs=>if rs.length<64/\∀ r∈rs,r≠[] then some (.lst ((L4.wA (vh rs)).map yB)) else none
 | _=>none
theorem QT:uD zS kj tN:=λ S Z ys z ds Q hz hv e hq=>by
 unfold kj at e;split at e
 .obtain⟨d,rfl,h1⟩:=ui hv;obtain⟨rs,e1,e2⟩:=zOb e;split at e2
  .rename_i hc;cases e2;cases gs e1;obtain⟨es,h2,h3⟩:=h1.seq rfl;cases pY.mp h3;have key:∃ rows:List (List Int),yw d S=some (rows.map wY)/\rows.length<64/\(∀ r∈rows,r≠[])/\∀ l,S l=none->Q (.ref l) (ups S l (.lst ((L4.wA (vh rows)).map wY))):=
    ⟨rs,h2,hc.1,hc.2,λ l hl=>hq _ _ (.new hl _) (rh hz hl (pY.mpr rfl))⟩
   obtain⟨_,q | ⟨a,q,_⟩,_⟩:=h1.lst
   .subst q;exact key
   .subst q;exact key
  .cases e2
 .cases e
section
variable {X:Cx}{K:PySem.W.Frag}{e:Expr}{tA:yK}{pos pos2 p p2:Pos}
theorem tN.mo:uC tN:=λ ds S Q Q' hq h=>by
 unfold tN at h ⊢;split at h
 .exact h.elim
 .obtain⟨rows,h1,h2,h3,h4⟩:=h;exact⟨rows,h1,h2,h3,λ l hl=>hq _ _ (h4 l hl)⟩
 .exact h.elim
theorem zv.pick {H:Hp}{ys vs:List V}{rows rs:List (List Int)}(h:zv K H (rows.map wY) ys) (P:ST.pO ys rows vs rs):zv K H (rs.map wY) vs:=by
 have key:∀ (vs:List V) (rs:List (List Int)),vs.length=rs.length->(∀ (i:Nat) v r,vs[i]?=some v->rs[i]?=some r->∃ (j:Nat),ys[j]?=some v/\rows[j]?=some r)->zv K H (rs.map wY) vs:=by
  intro vs
  induction vs with
  | nil=>intro rs hl _;cases rs with
   | nil=>exact .nil
   | cons _ _=>simp at hl
  | cons v vs ih=>intro rs hl hp;cases rs with
   | nil=>simp at hl
   | cons r rs=>
    refine .cons ?_ (ih rs (by simpa using hl) λ i v r hv hr=>hp (i+1) v r (by simpa using hv) (by simpa using hr));obtain⟨j,j1,j2⟩:=hp 0 v r rfl rfl;obtain⟨x,e1,e2⟩:=h.get (i:=j) (d:=wY r) (by rw[List.getElem?_map,j2];rfl);rw[j1] at e1;cases e1;exact e2
 exact key vs rs P.len P.sub
theorem pO.mem {ys vs:List V}{rows rs:List (List Int)}(P:ST.pO ys rows vs rs) {r:List Int}:r∈rs↔r∈rows:=by
 refine⟨λ h=>?_,P.all r⟩;obtain⟨i,hi⟩:=List.mem_iff_getElem?.mp h;have hl:i<vs.length:=by rw[P.len];exact (List.getElem?_eq_some_iff.mp hi).1
 obtain⟨j,_,j2⟩:=P.sub i _ r (List.getElem?_eq_getElem hl) hi;exact List.mem_of_getElem? j2
theorem tN.fits {w:World}:tW K tN (λ xs H Q=>∃ p ys,∃ rows:List (List Int),xs=[.ref p]/\yf K H p ys/\ST.jJ K H ys rows/\rows.length<64/\
  ∀ (l:Addr) (us:List Value) (vs:List V) (rs:List (List Int)),H l=none->Vals vs us->ST.pO ys rows vs rs->
   ∃ l' us' vs',∃ rs':List (List Int),[V.ref l]=[.ref l']/\(upd H l (.ext (ST.xo w l us))) l'=some (.ext (ST.xo w l' us'))/\Vals vs' us'/\ST.jJ K (upd H l (.ext (ST.xo w l us))) vs' rs'/\rs'.length<64/\
    ∀ (p:Addr) (idx:List Nat),(upd H l (.ext (ST.xo w l us))) p=none->idx.Perm (List.range vs'.length)->(idx.map λ i=>rs'.getD i []).Pairwise (λ a b=>HT.lexLt b a=false)->Q (.ref p) (upd (upd H l (.ext (ST.xo w l us))) p (.lst (idx.map λ i=>vs'.getD i .zl)))):=λ xs ds H S Q h0 h2 h=>by
 unfold tN at h;split at h
 .exact h.elim
 .rename_i d hn;obtain⟨x,hx,h1⟩:=h0.one;subst hx;obtain⟨rows,e,h64,hne,h⟩:=h;obtain⟨a,ys,rfl,g1,g2⟩:=qa h1 h2 e (λ ts z=>hn ts z);refine⟨a,ys,rows,rfl,g1,me g2 hne,h64,λ l us vs rs hf hv P=>?_⟩;have g3:=zv.pick g2 P;have x1:Ext H (upd H l (.ext (ST.xo w l us))):=.new hf _;have hper:rs.Perm (vh rows):=(List.perm_ext_iff_of_nodup P.nd (gN rows)).mpr λ r=>by rw[pO.mem P,oA]
  refine⟨l,us,vs,rs,rfl,xa,hv,me (zv.ext x1 _ g3) λ r hr=>hne r ((pO.mem P).mp hr),by rw[hper.length_eq];have:=kU rows;omega,λ p idx hp hi hs=>?_⟩;rw[P.len] at hi;have heq:=L4.cI ((aO hi).trans hper) hs;have hpl:p≠l:=λ z=>by subst z;rw[xa] at hp;cases hp
  have hpH:H p=none:=by rw[xg hpl] at hp;exact hp
  have x2:Ext (upd H l (.ext (ST.xo w l us))) (upd (upd H l (.ext (ST.xo w l us))) p (.lst (idx.map λ i=>vs.getD i .zl))):=.new hp _;have r1:z_ K (upd H l (.ext (ST.xo w l us))) S:=h2.new hf;refine h p (h2.none hpH) _ _ (by simp only[zk]) (x1.trans x2) (r1.ups x2 ⟨_,xa,?_⟩);rw[<- heq];exact zv.ext (x1.trans x2) _ (zv.perm g3 λ i h=>by simpa using hi.mem_iff.mp h)
 .exact h.elim
end
end L5
namespace ST
open PySem PySem.SetTable PyProof.Rows
theorem Z8 {t:SetTable}{hs:List Int}(T:Tab t hs) (h:Int):∀ (f k K:Nat),k<=K->K<k+f->(way t.mask h K).j∉t.place.toList->(∀ m<K,(way t.mask h m).j∈t.place.toList)->probe.go t (λ _=>h+1) h f (way t.mask h k)=some (.empty (way t.mask h K).j none)
 | 0,k,K,h1,h2,_,_=>by omega
 | f+1,k,K,h1,h2,h3,h4=>by
  by_cases e:k=K
  .subst e;unfold probe.go;rw[T.empty h3,ig]
  .obtain⟨i,g,p1,_⟩:=T.at (h4 k (by omega));have ih:=Z8 T h f (k+1) K (by omega) (by omega) h3 h4
   conv=>lhs;unfold probe.go
   rw[T.live p1];dsimp only;rw[if_neg (by intro q;have:=eq_of_beq q;omega),eO];exact ih
theorem Pe {t:SetTable}{hs:List Int}(T:Tab t hs) (hl:hs.length<=t.mask) (h:Int):∃ j,t.freeSlot h=some (j,false)/\dJ t h j:=by
 obtain⟨K,k1,k2,k3⟩:=T.first hl h;refine⟨(way t.mask h K).j,?_,⟨k2,K,rfl,k3⟩⟩;have g:=Z8 T h (10*turns t.mask) 0 K (Nat.zero_le _) (by unfold turns;omega) k2 k3;unfold SetTable.freeSlot;have e:t.probe (λ _=>h+1) h (t.probeStart h)=some (.empty (way t.mask h K).j none):=g;rw[e];rfl
structure uB (prog:Program) (w:World) (h:Heap) (a:Addr) (xs:List (Int×Tok)) (led:Bool):Prop where
 ex:∃ es ep t,h.get? a=some { cls:=.type "set",dict:=none,data:=.set es ep t }/\es.toList=xs.map (λ e=>((intKind prog w).hash e.1,Value.int e.1 e.2))/\Tab t (xs.map λ e=>(intKind prog w).hash e.1)/\t.led=led/\t.plain=true/\xs.length*5<t.mask*3
 nd:(xs.map (·.1)).Nodup
section
variable {prog:Program}{w:World}{A:Around}{E:Value->Shared->Prop}{s:Shared}
theorem fits_of {es:Array (Int×Value)}{t:SetTable}{hs:List Int}{n:Nat}(h1:es.size=n) (T:Tab t hs) (h2:hs.length=n) (h3:n<=t.mask):t.fits es.size=true:=by
 have l:=T.len;unfold SetTable.fits SetTable.fill;rw[T.qz,h1,l,h2];simp;omega
theorem mN {n m:Int}{t:Tok}:(intKind prog w).is n (.int m t)=true↔n=m:=by
 constructor
 .intro h;obtain⟨t',e⟩:=Value.isInt_shape (show Value.isInt n (.int m t)=true from h);cases e;rfl
 .rintro rfl;exact intKind_is _ _ _ _
theorem PC {es:Array (Int×Value)}{xs:List (Int×Tok)}(h:es.toList=xs.map (λ e=>((intKind prog w).hash e.1,Value.int e.1 e.2))):ElemsOf (intKind prog w) es.toList:=λ e he=>by
 rw[h] at he;obtain⟨x,_,rfl⟩:=List.mem_map.mp he;exact⟨⟨x.1,mN.mpr rfl,rfl⟩,rfl⟩
theorem VY {es:Array (Int×Value)}{t:SetTable}{xs:List (Int×Tok)}{M wanted:Nat}(he:es.toList=xs.map (λ e=>((intKind prog w).hash e.1,Value.int e.1 e.2))) (hM:uf M) (hw:sizeAbove wanted=M+1) (hfew:xs.length*5<M*3):
  ∃ es' t',∃ xs':List (Int×Tok),relayAll t es wanted=(es',t',false)/\es'.toList=xs'.map (λ e=>((intKind prog w).hash e.1,Value.int e.1 e.2))/\xs'.Perm xs/\Tab t' (xs'.map λ e=>(intKind prog w).hash e.1)/\t'.mask=M/\t'.led=t.led/\t'.plain=t.plain/\es'.size=es.size:=by
 have hlen:es.size=xs.length:=by have:=congrArg List.length he;simpa using this
 have hhs:(es.map (·.1)).toList=xs.map λ e=>(intKind prog w).hash e.1:=by rw[Array.toList_map,he,List.map_map];rfl
 have hsz:(es.map (·.1)).size=xs.length:=by rw[Array.size_map,hlen]
 obtain⟨t',order,h1,h2,h3,h4,h5,h6,h7⟩:=Zd hM t.finger (t.movedTo M) t.led t.plain (es.map (·.1)) (by rw[hsz];omega);rw[hsz] at h6;have hlt:∀ k∈order.toList,k<xs.length:=λ k hk=>by simpa using h6.mem_iff.mp hk
 have hr:t.relaid (es.map (·.1)) wanted=some (t',order):=by
  unfold SetTable.relaid;rw[hw,Nat.add_sub_cancel];exact h1
 have hes':(order.filterMap (es[·]?)).toList=(order.toList.filterMap λ k=>xs[k]?).map λ e=>((intKind prog w).hash e.1,Value.int e.1 e.2):=by
  rw[Array.toList_filterMap,List.map_filterMap];congr 1;funext k;rw[<- Array.getElem?_toList,he,List.getElem?_map]
 have hperm:(order.toList.filterMap λ k=>xs[k]?).Perm xs:=(h6.filterMap _).trans (by rw[List.filterMap_getElem?_range_length]);have hsz':(order.filterMap (es[·]?)).size=es.size:=by
  rw[<- Array.length_toList,hes',List.length_map,hperm.length_eq,hlen]
 have hT:Tab t' ((order.toList.filterMap λ k=>xs[k]?).map λ e=>(intKind prog w).hash e.1):=by
  rw[<- gD xs (λ e=>(intKind prog w).hash e.1) 0 order.toList hlt,<- hhs];exact h7
 refine⟨_,t',_,?_,hes',hperm,hT,h2,h4,h5,hsz'⟩;have zZ:coversAll order es.size=true:=by
  unfold coversAll;rw[List.isPerm_iff,hlen];exact h6
 have fit:t'.fits (order.filterMap (es[·]?)).size=true:=fits_of (n:=xs.length) (by rw[hsz',hlen]) hT (by rw[List.length_map,hperm.length_eq]) (by rw[h2];omega);unfold relayAll;rw[hr];dsimp only;rw[zZ,fit];rfl
theorem add_int {a:Addr}{xs:List (Int×Tok)}{n:Int}{tk:Tok}{led:Bool}{Q:Bool->Shared->Prop}(S:uB prog w s.heap a xs led) (hn:xs.length<70)
  (h:∀ h' xs' r,Heap.SameBut a s.heap h'->uB prog w h' a xs' led->(n∈xs.map (·.1)/\xs'=xs\/n∉xs.map (·.1)/\xs'.Perm (xs++[(n,tk)]))->Q r { s with heap:=h' }):
  wpAny (model prog w) A (setAddHashed a (.int n tk) ((intKind prog w).hash n)) Q E s:=by
 have S0:=S;obtain⟨⟨es,ep,t,ho,he,T,hled,hpl,hfew⟩,hnd⟩:=S;have hlen:es.size=xs.length:=by have:=congrArg List.length he;simpa using this
 have hm7:7<=t.mask/\t.mask<=127:=by rcases T.mask with e | e | e <;> omega
 have fit:t.fits es.size=true:=fits_of (n:=xs.length) hlen T (by simp) (by omega);have hel:=PC (prog:=prog) (w:=w) he;unfold setAddHashed setAddHashedIn;refine wpAny_holding (zWb (wpAny_setState_of ho rfl fit ?_));dsimp only;have bs:byScan (.int n tk) es=true:=by
  have h1:decide (es.size<scanBound)=true:=decide_eq_true (by unfold scanBound;omega);have h2:es.all (·.2.scannable)=true:=by
   rw[Array.all_eq_true_iff_forall_mem];intro e hm;exact (hel e (by simpa using hm)).2
  unfold byScan;rw[h1,h2];rfl
 rw[if_pos bs];refine zWb ?_;unfold setAddByScan;refine zWb (wpAny_rule (zWb (wpAny_setScan_of (k:=n) (mN.mpr rfl) ho rfl fit hel ?_)));have hfind:(es.toList.findIdx? (λ e=>(intKind prog w).is n e.2)).isSome=true↔n∈xs.map (·.1):=by
  rw[he,List.findIdx?_isSome,List.any_eq_true];constructor
  .rintro⟨e,hm,q⟩;obtain⟨x,hx,rfl⟩:=List.mem_map.mp hm;exact List.mem_map.mpr ⟨x,hx,(mN.mp q).symm⟩
  .intro hm;obtain⟨x,hx,rfl⟩:=List.mem_map.mp hm;exact⟨_,List.mem_map.mpr ⟨x,hx,rfl⟩,mN.mpr rfl⟩
 cases hc:es.toList.findIdx? (λ e=>(intKind prog w).is n e.2) with
 | some j=>
  dsimp only;have hm:=hfind.mp (by rw[hc];rfl);refine wpAny_pure ?_;dsimp only;exact wpAny_pure (h s.heap xs false ⟨rfl,λ _ _=>rfl⟩ S0 (.inl ⟨hm,rfl⟩))
 | none=>
  dsimp only;have hm:n∉xs.map (·.1):=λ q=>by have:=hfind.mpr q;rw[hc] at this;cases this
  obtain⟨j,fs,F⟩:=Pe T (by rw[List.length_map];omega) ((intKind prog w).hash n);obtain⟨p1,p2,p3⟩:=T.put F;rw[List.length_map] at p1;have hpt:(t.put j).1.plain=true:=by rw[p2];exact hpl
  have hmt:(t.put j).1.mask=t.mask:=by rw[p2]
  have hlt:(t.put j).1.led=led:=by rw[p2];exact hled
  generalize hT:(t.put j)=P at *;obtain⟨t1,p⟩:=P;dsimp only at *
  let xs1:=xs.take p++(n,tk)::xs.drop p
  have hperm:xs1.Perm (xs++[(n,tk)]):=by
   have e:xs.take p++xs.drop p=xs:=List.take_append_drop p xs;have:xs1.Perm ((n,tk)::(xs.take p++xs.drop p)):=List.perm_middle;rw[e] at this;exact this.trans (List.perm_append_singleton _ _).symm
  have hl1:xs1.length=xs.length+1:=by rw[hperm.length_eq];simp
  have hes1:(insertAt es p ((intKind prog w).hash n,Value.int n tk)).toList=xs1.map λ e=>((intKind prog w).hash e.1,Value.int e.1 e.2):=by
   rw[toList_insertAt,he];simp[xs1,List.map_take,List.map_drop]
  have hsz1:(insertAt es p ((intKind prog w).hash n,Value.int n tk)).size=xs.length+1:=by rw[<- Array.length_toList,hes1,List.length_map,hl1]
  have T1:Tab t1 (xs1.map λ e=>(intKind prog w).hash e.1):=by
   have:xs1.map (λ e=>(intKind prog w).hash e.1)=(xs.map λ e=>(intKind prog w).hash e.1).take p++(intKind prog w).hash n::(xs.map λ e=>(intKind prog w).hash e.1).drop p:=by simp[xs1,List.map_take,List.map_drop]
   rw[this];exact p3
  have fit1:t1.fits (insertAt es p ((intKind prog w).hash n,Value.int n tk)).size=true:=fits_of (n:=xs.length+1) hsz1 T1 (by rw[List.length_map,hl1]) (by rw[hmt];omega);have hlay:layNew t es ((intKind prog w).hash n) (.int n tk)=(insertAt es p ((intKind prog w).hash n,Value.int n tk),t1,false,false):=by
   unfold layNew;rw[fs];dsimp only;rw[hT];dsimp only;unfold SetTable.orStandIn;rw[fit1];rfl
  have hsl:(insertAt es p ((intKind prog w).hash n,Value.int n tk)).size<=sizeLine:=by
   rw[hsz1];have:sizeLine=16777216:=rfl;omega
  have hnd1:(xs1.map (·.1)).Nodup:=by
   refine (hperm.map _).nodup_iff.mpr ?_;rw[List.map_append,List.nodup_append];refine⟨hnd,by simp,λ x hx y hy=>?_⟩;simp at hy;subst hy;exact λ e=>hm (e▸hx)
  have ho1:=kE (es':=insertAt es p ((intKind prog w).hash n,Value.int n tk)) (t':=t1) ho;have sb:=Heap.SameBut.update s.heap a (Obj.putSet (insertAt es p ((intKind prog w).hash n,Value.int n tk)) t1);have hfill:t1.fill=xs.length+1:=by
   have l:=T1.len;rw[List.length_map,hl1] at l;unfold SetTable.fill;rw[T1.qz,l];simp
  rw[hlay];dsimp only;refine zWb (m:=pure ()) (wpAny_pure ?_);rw[hpt];simp only[if_true];refine zWb (m:=pure true) (wpAny_pure ?_);simp only[if_true];refine zWb (wpAny_storeSet_of ho rfl ?_ hsl);by_cases hf:t1.tooFull=true
  .rw[hf];simp only[Bool.not_false,Bool.and_self,if_true];have hfull:t.mask*3<=(xs.length+1)*5:=by
    have:=hf;unfold SetTable.tooFull at this;rw[hfill,hmt] at this;simpa using this
   obtain⟨M',g1,g2,g3⟩:=cT xs.length t.mask T.mask hfew hfull hn;obtain⟨es2,t2,xs2,r1,r2,r3,r4,r5,r6,r7,r8⟩:=VY (prog:=prog) (w:=w) (t:=t1) hes1 g1 (wanted:=grown (insertAt es p ((intKind prog w).hash n,Value.int n tk)).size) (by rw[hsz1];exact g2) (by rw[hl1];exact g3);rw[r1];dsimp only;refine zWb (m:=pure ()) (wpAny_pure (zWb (wpAny_storeSet_of ho1 rfl ?_ (by rw[r8];exact hsl))));refine wpAny_pure ?_;dsimp only;refine wpAny_pure (h _ xs2 true (sb.trans (Heap.SameBut.update _ a _)) ⟨⟨es2,ep+1+1,t2,kE ho1,r2,r4,by rw[r6];exact hlt,by rw[r7];exact hpt,by rw[r3.length_eq,hl1,r5];exact g3⟩,(r3.map _).nodup_iff.mpr hnd1⟩ (.inr ⟨hm,r3.trans hperm⟩))
  .have hf':t1.tooFull=false:=by simpa using hf
   rw[hf'];simp only[Bool.not_false,Bool.and_false,Bool.false_eq_true,if_false];have hfull:(xs.length+1)*5<t.mask*3:=by
    have:=hf';unfold SetTable.tooFull at this;rw[hfill,hmt] at this;simpa using this
   refine wpAny_pure ?_;dsimp only;exact wpAny_pure (h _ xs1 true sb ⟨⟨_,ep+1,t1,ho1,hes1,T1,hlt,hpt,by rw[hl1,hmt];exact hfull⟩,hnd1⟩ (.inr ⟨hm,hperm⟩))
end
end ST
namespace ST
open PySem PySem.SetTable PyProof.Rows
structure rH (its:Array Value) (ns:List Int) (i:Nat) (xs:List (Int×Tok)):Prop where
 own:∀ e∈xs,∃ j,j<i/\ns[j]?=some e.1
 all:∀ (j:Nat) r,j<i->ns[j]?=some r->r∈xs.map (·.1)
theorem gP:∀ (l m:List Int),l.Nodup->(∀ x∈l,x∈m)->l.length<=m.length
 | [],m,_,_=>Nat.zero_le _
 | x::l,m,hn,hs=>by
  have h1:=List.nodup_cons.mp hn;have hx:=hs x zMc;have:=gP l (m.erase x) h1.2 λ z hz=>(List.mem_erase_of_ne (λ e:z=x=>h1.1 (by rw[<- e];exact hz))).mpr (hs z (zMo _ hz));rw[List.length_erase_of_mem hx] at this;have:=List.length_pos_of_mem hx;simp only[List.length_cons];omega
theorem rH.len {its:Array Value}{ns:List Int}{i:Nat}{xs:List (Int×Tok)}(U:rH its ns i xs) (nd:(xs.map (·.1)).Nodup):xs.length<=i:=by
 have:=gP (xs.map (·.1)) ((List.range i).map λ j=>ns.getD j 0) nd λ x hx=>by
  obtain⟨e,he,rfl⟩:=List.mem_map.mp hx;obtain⟨j,h1,h3⟩:=U.own e he;exact List.mem_map.mpr ⟨j,List.mem_range.mpr h1,by rw[List.getD_eq_getElem?_getD,h3];rfl⟩
 simpa using this
theorem rH.step {its:Array Value}{ns:List Int}{i:Nat}{xs xs':List (Int×Tok)}{n:Int}{t:Tok}(U:rH its ns i xs) (hr:ns[i]?=some n)
  (h:n∈xs.map (·.1)/\xs'=xs\/n∉xs.map (·.1)/\xs'.Perm (xs++[(n,t)])):rH its ns (i+1) xs':=by
 have eqi:∀ j:Nat,j<i+1->¬ j<i->j=i:=λ j a b=>by omega
 rcases h with ⟨hm,rfl⟩ | ⟨_,hp⟩
 .refine⟨λ e he=>?_,λ j r hj hrj=>?_⟩
  .obtain⟨j,h1,h2⟩:=U.own e he;exact⟨j,Nat.lt_succ_of_lt h1,h2⟩
  .by_cases q:j<i
   .exact U.all j r q hrj
   .rw[eqi j hj q,hr] at hrj;cases hrj;exact hm
 .refine⟨λ e he=>?_,λ j r hj hrj=>?_⟩
  .rcases List.mem_append.mp (hp.mem_iff.mp he) with q | q
   .obtain⟨j,h1,h2⟩:=U.own e q;exact⟨j,Nat.lt_succ_of_lt h1,h2⟩
   .cases List.mem_singleton.mp q;exact⟨i,Nat.lt_succ_self i,hr⟩
  .rw[(hp.map (·.1)).mem_iff,List.map_append];by_cases q:j<i
   .exact List.mem_append_left _ (U.all j r q hrj)
   .rw[eqi j hj q,hr] at hrj;cases hrj;exact List.mem_append_right _ zMc
def Nums (its:Array Value) (ns:List Int):Prop:=∀ (i:Nat) v,its[i]?=some v->∃ n t,v=.int n t/\ns[i]?=some n
section
variable {prog:Program}{w:World}{A:Around}{R:Result->Shared->Prop}{I:Addr}{fp wr:List Addr}{G:Array GenState->Array GenState->Prop}{n:Nat}{P:Nat->Value->Prop}{St:Nat->Shared->Prop}
theorem uB.keep {h h':Heap}{a:Addr}{xs:List (Int×Tok)}{led:Bool}(S:uB prog w h a xs led) (k:∀ o,h.get? a=some o->h'.get? a=some o):uB prog w h' a xs led:=
 let ⟨⟨es,ep,t,ho,r⟩,nd⟩:=S;⟨⟨es,ep,t,k _ ho,r⟩,nd⟩
theorem Qb (W:WalksS prog w A.in1 I fp wr G n (λ i v=>P i v) St) (Sa:Addr) (hSf:Sa∉fp) {its:Array Value}{ns:List Int}(hP:∀ i v,P i v->its[i]?=some v) (hn:n<70) (led:Bool) (hN:Nums its ns):
  ∀ (k i:Nat) (s:Shared) (xs:List (Int×Tok)),n-i=k->i<=n->St i s->uB prog w s.heap Sa xs led->rH its ns i xs->
   (∀ s' xs',Moved (Sa::wr) G s s'->uB prog w s'.heap Sa xs' led->rH its ns n xs'->R (.ok (.ret .none)) s')->
   codeAny (model prog w) A (.builtin "set.update.loop" ⟨[.ref Sa,.ref I],[]⟩) R s:=by
 have hSw:Sa∉wr:=λ z=>hSf (W.sub _ z);have more:∀ b∈wr,b∈Sa::wr:=λ b hb=>zMo _ hb;intro k
 induction k with
 | zero=>
  intro i s xs hk hi hst hS hU hR;have e:i=n:=by omega
  subst e;refine codeAny_builtin F.entry_set_update_loop ?_;rw[Around.under_plainId F.plain_set_update_loop _];show wpAny _ A.in1 (pyNext (.ref I) >>= _) _ _ s;exact zWb (W.done s _ _ hst λ s' hm=>wpAny_pure (hR s' xs (hm.mono more) (hS.keep λ o e=>hm.heap _ o hSw e) hU))
 | succ k ih=>
  intro i s xs hk hi hst hS hU hR;have hlt:i<n:=by omega
  refine codeAny_builtin F.entry_set_update_loop ?_;rw[Around.under_plainId F.plain_set_update_loop _];show wpAny _ A.in1 (pyNext (.ref I) >>= _) _ _ s;refine zWb (W.item i s _ _ hlt hst λ v s1 hPv hst1 hm=>?_);obtain⟨m,t,rfl,hr⟩:=hN i v (hP i v hPv);have S1:uB prog w s1.heap Sa xs led:=hS.keep λ o e=>hm.heap _ o hSw e;have hl:xs.length<70:=by have:=hU.len hS.nd;omega
  show wpAny _ A.in1 (holding [Value.int m t] (setAdd Sa (.int m t)) >>= _) _ _ s1;refine zWb (wpAny_holding ?_);unfold setAdd;refine wpAny_holding (zWb ((intKind prog w).pyHash (A:=A.in1) (k:=m) (mN.mpr rfl) ?_));refine add_int (s:={ s1 with toks:=s1.toks+1 }) (A:=A.in1) S1 hl λ h' xs' rr sb S' hx=>?_;have fr:=W.frame (i+1) s1 h' (s1.toks+1) hst1 (Nat.le_add_right _ _) λ c hc o e=>(sb.2 c (λ z:c=Sa=>hSf (z▸hc))).trans e;refine wpAny_pure ⟨plainId_quiet F.plain_set_update_loop _,ih (i+1) _ xs' (by omega) hlt fr S' (hU.step hr hx) λ s2 xs2 hm2 S2 U2=>?_⟩;refine hR s2 xs2 (Moved.trans W.gtrans ((hm.mono more).then_heap (Nat.le_add_right _ _) λ c o hc e=>?_) hm2) S2 U2;exact (sb.2 c (λ z=>hc (z▸zMc))).trans e
end
end ST
namespace ST
open PySem PySem.SetTable PyProof.Rows
section
variable {prog:Program}{w:World}{A:Around}{E:Value->Shared->Prop}{s:Shared}
theorem V8 {h:Heap}{a:Addr}(ho:h.get? a=some (xC w)):uB prog w h a [] (uu w):=
 ⟨⟨#[],0,_,ho,rfl,⟨.inl rfl,rfl,rfl,.nil,λ j hj=>(by cases hj),λ i g j hg=>(by cases hg)⟩,rfl,rfl,by show 0*5<7*3;omega⟩,.nil⟩
set_option maxRecDepth 100000 in
set_option maxHeartbeats 6400000 in
theorem OD {l:Addr}{its:Array Value}{ns:List Int}{Q:Value->Shared->Prop}(hh:A.handled=none) (hl:s.heap.IsList l its) (hT:Nums its ns) (hn:its.size<70)
  (h:∀ (h':Heap) (tk:Nat) xs,uB prog w h' s.heap.objs.size xs (uu w)->rH its ns its.size xs->(∀ b o,b<s.heap.objs.size->s.heap.get? b=some o->h'.get? b=some o)->Q (.ref s.heap.objs.size) { s with heap:=h',toks:=tk }):
  wpAny (model prog w) A (call (.type "set") [.ref l]) Q E s:=by
 obtain⟨c,tl,hmro⟩:=F.called_set.mro;have made:=F.called_set.made;have subm:=F.called_set.sub;refine wpAny_call (codeAny_of_tree ?_);show wpAny _ _ (callAny (.type "set") _) _ _ _;refine wpAny_pure ⟨Code.quiet_builtin _ (by decide +kernel),codeAny_builtin F.entry_type_call ?_⟩;rw[Around.under_plain (weight_type_call_type "set" [.ref l] []) rfl];have nt:=F.called_set.notType;have cc:=F.called_set.canCreate;have tc:=F.typeCall_set_1 (.ref l)
 repeat (any_goals (first | assumption | wp_step))
 refine codeAny_mono (Yx (.ref l) (E:=E) (Q:=λ obj s₁=>obj=.ref s.heap.objs.size/\s₁={ s with heap:=s.heap.push (xC w) }) ⟨rfl,rfl⟩) λ r s₁ hr=>?_;cases r with
 | error e=>exact hr
 | ok fl=>
  cases fl with
  | ret obj=>
   obtain⟨rfl,rfl⟩:=hr;have hS:(s.heap.push (xC w)).get? s.heap.objs.size=some (xC w):=Heap.get?_push_size _ rfl;have hTy:Shared.TypeIs { s with heap:=s.heap.push (xC w) } (.ref s.heap.objs.size) "set":=⟨_,hS,rfl⟩
   have li:=F.called_set.init.lookup;have bi:=F.called_set.init.bind (.ref s.heap.objs.size)
   repeat (any_goals (first | assumption | wp_step))
   let s1:Shared:={ s with heap:=s.heap.push (xC w) }
   refine codeAny_mono (codeAny_call_builtin (R:=wants (λ r s₂=>r=.none/\∃ h' tk xs,s₂={ s with heap:=h',toks:=tk }/\uB prog w h' s.heap.objs.size xs (uu w)/\rH its ns its.size xs/\
     ∀ b o,b<s.heap.objs.size->s.heap.get? b=some o->h'.get? b=some o) E) F.called_set.init.plain F.entry_set_init (check_set_init_1 hTy ?_)) λ r₂ s₂ hr₂=>?_
   .obtain⟨⟨ocls,odict,odata,oslots⟩,hol,hcl,nl,hdl⟩:=id hl;simp only at hcl hdl;subst hcl hdl;have hol1:(s.heap.push (xC w)).get? l=some { cls:=.type "list",dict:=odict,data:=.seq its nl,slots:=oslots }:=zHp _ hol;have sls:=F.sub_list_set;have slf:=F.sub_list_frozenset;have nd:(Value.type "list" == Value.type "dict")=false:=by decide
    have hl1:(s.heap.push (xC w)).IsList l its:=⟨_,hol1,rfl,nl,rfl⟩
    unfold Builtin.«set.__init__» noKeywords Builtin.Frozenset.updateFrom;generalize hPI:pyIter=PI;unfold xC at *
    wp_walk
    subst hPI;refine wpAny_pyIter_list hl1 (zWb (wpAny_runValue ?_));have hlS:l<s.heap.objs.size:=Heap.lt_size hol;have hsz:(s.heap.push (xC w)).objs.size=s.heap.objs.size+1:=Heap.size_push _ _;have hneI:l≠(s.heap.push (xC w)).objs.size:=by rw[hsz];exact Nat.ne_of_lt (Nat.lt_succ_of_lt hlS)
    have szne:s.heap.objs.size≠(s.heap.push (xC w)).objs.size:=by rw[hsz];exact Nat.ne_of_lt (Nat.lt_succ_self _)
    have low:∀ b:Addr,b<s.heap.objs.size->b≠(s.heap.push (xC w)).objs.size:=λ b hb=>by rw[hsz];exact Nat.ne_of_lt (Nat.lt_succ_of_lt hb)
    refine Qb (A:=A.in1.in1) (P:=λ i v=>its[i]?=some v) ((Walks.list (A:=A.in1.in1.in1) (by simp[hh]) _ l hneI its).toS) s.heap.objs.size ?_ (its:=its) (ns:=ns) (λ _ _ q=>q) hn (uu w) hT its.size 0 _ [] (by omega) (Nat.zero_le _)
     ⟨⟨_,Heap.get?_push_size _ rfl,rfl,rfl⟩,hl1.push _⟩ (V8 (w:=w) (zHp _ hS)) ⟨λ e he=>(by cases he),λ j r hj=>(by omega)⟩ ?_
    .intro hm;rcases List.mem_cons.mp hm with q | q
     .exact szne q
     .exact Nat.ne_of_gt hlS (List.mem_singleton.mp q)
    .intro s' xs' hm S' U';obtain⟨h',g',d',tk',os'⟩:=s';obtain rfl:g'=s.gens:=hm.gens;obtain rfl:d'=s.drawn:=hm.drawn;obtain rfl:os'=s.os:=hm.os;refine wpAny_pure (wpAny_pure ⟨rfl,h',tk',xs',rfl,S',U',λ b o hb e=>?_⟩);refine hm.heap b o (λ q=>?_) (zHp _ (zHp _ e));rcases List.mem_cons.mp q with q | q
     .exact Nat.ne_of_lt hb q
     .exact low b hb (List.mem_singleton.mp q)
   .cases r₂ with
    | error e=>exact hr₂
    | ok fl₂=>
     cases fl₂ with
     | ret r=>
      obtain⟨rfl,h',tk,xs,rfl,g1,g2,g3⟩:=hr₂
      repeat (any_goals (first | assumption | wp_step))
      exact h h' tk xs g1 g2 g3
     | _=>exact hr₂.elim
  | _=>exact hr.elim
end
end ST
namespace L4
open PySem PyProof.Rows
theorem Ot {prog:Program}{w:World}{A:Around}{E:Value->Shared->Prop}{s:Shared}{vs:List Value}{ns:List Int}(hI:IntsAre vs ns) (h2:2<=vs.length) (h64:vs.length<64):
  Core prog w A E vs (λ out=>∃ ns',IntsAre out.toList ns'/\ns'.Perm ns/\ns'.Pairwise (·<=·)) s:=by
 obtain⟨v1,v2,rest,rfl⟩:∃ v1 v2 rest,vs=v1::v2::rest:=by
  match vs,h2 with
  | v1::v2::rest,_=>exact⟨v1,v2,rest,rfl⟩
 unfold Core;rw[keyKind_ints hI];refine wpAny_pure ⟨rfl,?_⟩;refine wpAny_mono (wpS_sortRuns (a₀:=pairsOf (v1::v2::rest)) (st:=SortSt.mk' oneType' ((v1::v2::rest).toArray.zip (v1::v2::rest).toArray) #[] 7 none)
   (Q:=λ _ st'=>(arrOf st').Perm (pairsOf (v1::v2::rest))/\failedOf st'=none/\SortedTo (arrOf st') (pairsOf (v1::v2::rest)).size)
   hI.intKeys ⟨Array.Perm.refl _,rfl,rfl,rfl⟩ (by rw[pairsOf_size];simp) (by rw[pairsOf_size];exact h64) λ st' a1 a2 a3=>⟨a1,a2,a3⟩) ?_ λ _ _ e=>e
 rintro⟨⟨⟩,st'⟩ s' ⟨rfl,hp,hf,hs⟩;exact⟨rfl,hf,sorted_out hI hp hs,by rw[hp.size_eq,pairsOf_size]⟩
end L4
namespace L5
open PySem PySem.Spec L2 L3
open PyProof.Rows hiding St
structure Bq (mg:Str->Option Value):Prop where
 set:mg "set"=none
 zip:mg "zip"=none
 enumerate:mg "enumerate"=none
section
variable {X:Cx}{K:PySem.W.Frag}{a b c e:Expr}{es:List Expr}{ta tb tc te:zH}{tA:yK}{pos p:Pos}{fa fb fc:Ev->Option T}
def oT (f g:xq) (ta tb tc:zH):zH:=fun δ S Q=>ta δ S λ x S1=>tb δ S1 λ y S2=>f x y S2 λ z S3=>match z with
 | .bl k=>if k=true then tc δ S3 λ w S4=>g y w S4 Q else Q (.bl false) S3
 | _=>False
theorem oT.mo {f g:xq}(hf:w9 f) (hg:w9 g) (ha:y6 ta) (hb:y6 tb) (hc:y6 tc):y6 (oT f g ta tb tc):=fun δ S Q Q' hq h=>
 ha δ S _ _ (λ x S1 h=>hb δ S1 _ _ (λ y S2 h=>hf x y S2 _ _ (λ z S3 h=>by
  cases z <;> first
   | exact vH (hc δ S3 _ _ λ w S4 h=>hg y w S4 _ _ hq h) (hq _ _) h
   | exact h) h) h) h
theorem W8 {f g:xq}{r r':R2}(hr:xY K f r) (hr':xY K g r') (hf:w9 f) (hg:w9 g) (ha:y6 ta) (hb:y6 tb) (hc:y6 tc) {σ:St}{H:Hp}{Q:VK}(h:yd K (oT f g ta tb tc) σ H Q):cD r r' (yd K ta) (yd K tb) (yd K tc) σ H Q:=by
 obtain⟨δ,S,r1,r2,h⟩:=h;refine yd.go ha r1 r2 h λ x S1 v H1 h1 q1 e1 p1=>?_;refine yd.go hb (r1.ext e1) p1 h1 λ y S2 w H2 h2 q2 e2 p2=>?_;refine hr v w x y H2 S2 _ (zk.ext e2 x q1) q2 p2 (hf x y S2 _ _ (λ d S3 z v3 H3 q3 e3 p3=>?_) h2);cases d with
 | bl k=>
  simp only[zk] at q3;refine⟨k,q3,vH (λ z=>?_) (λ z=>?_) z⟩
  .refine yd.go hc (r1.ext ((e1.trans e2).trans e3)) p3 z λ w4 S4 v4 H4 h4 q4 e4 p4=>?_;exact hr' w v4 y w4 H4 S4 Q (zk.ext (e3.trans e4) y q2) q4 p4 (hg y w4 S4 _ _ (λ d S' z=>z.ext (((e1.trans e2).trans e3).trans e4)) h4)
  .exact z _ H3 (by simp only[zk]) ((e1.trans e2).trans e3) p3
 | zl=>exact z.elim
 | int _=>exact z.elim
 | str _=>exact z.elim
 | tup _=>exact z.elim
 | xb _=>exact z.elim
 | ref _=>exact z.elim
@[simp] noncomputable def YA (f g:T->T->Option T) (fa fb fc:Ev->Option T):Ev->Option T:=fun ρ=>(fa ρ).bind λ x=>(fb ρ).bind λ y=>(f x y).bind λ b=>match b with
 | .bl k=>if k=true then (fc ρ).bind λ z=>g y z else some (.bl false)
 | _=>none
theorem R3 {f g:T->T->Option T}{F G:xq}(hf:Good2 zS f F) (hg:Good2 zS g G) (ha:yI fa ta) (hb:yI fb tb) (hc:yI fc tc):xX (YA f g fa fb fc) (oT F G ta tb tc):=λ S Z δ ρ y Q hE e hq=>by
 obtain⟨x1,e1,e⟩:=zOb e;obtain⟨x2,e2,e⟩:=zOb e;obtain⟨b,e3,e⟩:=zOb e;refine ha S Z δ ρ x1 _ hE e1 λ d1 S1 s1 r1=>?_;refine hb S1 Z δ ρ x2 _ (hE.grow s1) e2 λ d2 S2 s2 r2=>?_;refine hf S2 Z x1 x2 b d1 d2 _ (hE.grow (s1.trans s2)).zd (Vw.grow r1 s2) r2 e3 λ c S3 s3 r3=>?_;split at e
 .have:=r3.1;simp only[Sn] at this;subst this;split at e
  .rename_i hk;obtain⟨x4,e4,e5⟩:=zOb e;dsimp only;rw[if_pos hk];refine hc S3 Z δ ρ x4 _ (hE.grow ((s1.trans s2).trans s3)) e4 λ d4 S4 s4 r4=>?_;exact hg S4 Z x2 x4 y d2 d4 Q (hE.grow (((s1.trans s2).trans s3).trans s4)).zd (Vw.grow r2 (s3.trans s4)) r4 e5 λ c' S5 s5 r5=>hq c' S5 ((((s1.trans s2).trans s3).trans s4).trans s5) (Cl.cl (((s1.trans s2).trans s3).trans s4) r5)
  .rename_i hk;dsimp only;rw[if_neg hk];cases e;exact hq _ S3 ((s1.trans s2).trans s3) (Cl.of (λ _=>nofun) vq)
 .cases e
theorem TK {op op':CmpOp}{f g:xq}{r r':R2}(ho:y4 X (compareOp op) r) (ho':y4 X (compareOp op') r') (hr:xY X.K f r) (hr':xY X.K g r') (hf:w9 f) (hg:w9 g) (ha:PD X a ta) (hb:PD X b tb) (hc:PD X c tc)
  (hm:lastMarks [op,op'] [b,c]=false:=by with_unfolding_all rfl):PD X (.Compare a [op,op'] [b,c] pos) (oT f g ta tb tc):=
 ⟨oT.mo hf hg ha.mo hb.mo hc.mo,PE.imp (Ti ho ho' ha.pe hb.pe hc.pe hm) λ _ _ _ h=>W8 hr hr' hf hg ha.mo hb.mo hc.mo h⟩
end
end L5
namespace L2
open PySem PySem.Spec PyProof.Rows
section
variable {X:Cx}
theorem Si:y4 X (compareOp .Is) (λ x y H Q=>∃ c d,x=.bl c/\y=.bl d/\Q (.bl (c == d)) H):=by
 intro pins s σ H x y v u Q I rx ry h;obtain⟨c,d,rfl,rfl,q⟩:=h;cases rx;cases ry;exact is_bool ⟨.bl _,H,I,rfl,q⟩
theorem aj:y4 X (compareOp .IsNot) (λ x y H Q=>∃ c d,x=.bl c/\y=.bl d/\Q (.bl (c != d)) H):=by
 intro pins s σ H x y v u Q I rx ry h;obtain⟨c,d,rfl,rfl,q⟩:=h;cases rx;cases ry;exact isnot_bool ⟨.bl _,H,I,rfl,q⟩
end
end L2
namespace L5
open PySem PySem.Spec L2 L3
open PyProof.Rows hiding St
section
variable {X:Cx}{K:PySem.W.Frag}{a b c e o i v:Expr}{es:List Expr}{ta tb tc te td ty tv:zH}{tA:yK}{pos p pos':Pos}{fa fb fc:Ev->Option T}
def uz:xq:=λ x y S Q=>match x,y with
 | .int i,.int j=>Q (.bl (decide (i<j))) S
 | .tup ds,.tup es=>∃ ns ms:List Int,ds=ns.map D.int/\es=ms.map D.int/\Q (.bl (HT.lexLt ns ms)) S
 | _,_=>False
noncomputable def yH:T->T->Option T
 | .int i,.int j=>some (.bl (decide (i<j)))
 | .tup ts,.tup us=>(uN ts).bind λ ns=>(uN us).map λ ms=>.bl (HT.lexLt ns ms)
 | _,_=>none
theorem uz.mo:w9 uz:=λ x y S Q Q' hq h=>by
 unfold uz at h ⊢;split at h
 .exact hq _ _ h
 .obtain⟨ns,ms,h1,h2,h3⟩:=h;exact⟨ns,ms,h1,h2,hq _ _ h3⟩
 .exact h.elim
theorem uz.fits:xY K uz (λ x y H Q=>vC (λ i j=>.bl (decide (i<j))) x y H Q\/g9 K x y H Q):=λ x y d e H S Q h1 h2 h3 h=>by
 unfold uz at h;split at h
 .simp only[zk] at h1 h2;exact .inl ⟨_,_,h1,h2,h _ H (by simp only[zk]) (.refl H) h3⟩
 .obtain⟨ns,ms,rfl,rfl,h⟩:=h;simp only[zk] at h1 h2;obtain⟨a,xs,rfl,g1,g2⟩:=h1;obtain⟨b,ys,rfl,g3,g4⟩:=h2;rw[g2.ints] at g1;rw[g4.ints] at g3;exact .inr ⟨a,b,ns,ms,rfl,rfl,g1,g3,h _ H (by simp only[zk]) (.refl H) h3⟩
 .exact h.elim
theorem uP:Good2 zS yH uz:=λ S Z x y z d e Q hz hx hy ef hq=>by
 unfold yH at ef;split at ef
 .cases ef;cases hx.int;cases hy.int;exact hq _ S (.refl S) (Cl.of (λ _=>nofun) vq)
 .obtain⟨ns,e1,e2⟩:=zOb ef;obtain⟨ms,e3,rfl⟩:=zOm e2;cases mO e1;cases mO e3;obtain⟨ds,rfl,h2⟩:=hx.tup;obtain⟨es,rfl,h4⟩:=hy.tup;exact⟨ns,ms,rg.mp h2,rg.mp h4,hq _ S (.refl S) (Cl.of (λ _=>nofun) vq)⟩
 .cases ef
theorem ak {k:Nat}(hr:yS k X.A):y4 X (compareOp .Lt) (λ x y H Q=>vC (λ i j=>.bl (decide (i<j))) x y H Q\/g9 X.K x y H Q):=Sg.or (Sf (by have:=hr.units;omega))
theorem T6 {k:Nat}(hr:yS k X.A) (ha:PD X a ta) (hb:PD X b tb):PD X (.Compare a [.Lt] [b] pos) (yD uz ta tb):=kK (ak hr) uz.fits uz.mo ha hb (uM _)
theorem t5 {k:Nat}(hr:yS k X.A) (ha:PD X a ta) (hb:PD X b tb):wj X (.Compare a [.Lt] [b] pos) (vZ (yD uz ta tb)):=rm (ak hr) uz.fits uz.mo ha hb (uM _)
def wD (neg:Bool):xq:=λ x y S Q=>match x,y with
 | .bl c,.bl d=>Q (.bl (cond neg (c != d) (c == d))) S
 | x,.zl=>Q (.bl (cond neg (!oH x) (oH x))) S
 | _,_=>False
noncomputable def wC (neg:Bool):T->T->Option T
 | .bl c,.bl d=>some (.bl (cond neg (c != d) (c == d)))
 | x,.zl=>some (.bl (cond neg (!isNone x) (isNone x)))
 | _,_=>none
theorem wD.mo {neg:Bool}:w9 (wD neg):=λ x y S Q Q' hq h=>by
 unfold wD at h ⊢;split at h
 .exact hq _ _ h
 .exact hq _ _ h
 .exact h.elim
theorem wD.fits:xY K (wD false) (λ x y H Q=>(∃ c d,x=.bl c/\y=.bl d/\Q (.bl (c == d)) H)\/(y=.zl/\Q (.bl (decide (x=.zl))) H)):=λ x y d e H S Q h1 h2 h3 h=>by
 unfold wD at h;split at h
 .simp only[zk] at h1 h2;exact .inl ⟨_,_,h1,h2,h _ H (by simp only[zk,cond]) (.refl H) h3⟩
 .simp only[zk] at h2;refine .inr ⟨h2,?_⟩;rw[Zk h1];exact h _ H (by simp only[zk,cond]) (.refl H) h3
 .exact h.elim
theorem wD.ZF:xY K (wD true) (λ x y H Q=>(∃ c d,x=.bl c/\y=.bl d/\Q (.bl (c != d)) H)\/(y=.zl/\Q (.bl (!decide (x=.zl))) H)):=λ x y d e H S Q h1 h2 h3 h=>by
 unfold wD at h;split at h
 .simp only[zk] at h1 h2;exact .inl ⟨_,_,h1,h2,h _ H (by simp only[zk,cond]) (.refl H) h3⟩
 .simp only[zk] at h2;refine .inr ⟨h2,?_⟩;rw[Zk h1];exact h _ H (by simp only[zk,cond]) (.refl H) h3
 .exact h.elim
theorem Q8 {S:SS}{Z:Addr->Prop}{x:T}{d:D}(hx:Vw S Z x d):oH d=isNone x:=by
 cases x with
 | zl=>cases hx.zl;rfl
 | bl _=>cases hx.bl;rfl
 | int _=>cases hx.int;rfl
 | str _=>cases hx.str;rfl
 | tup _=>obtain⟨ds,rfl,_⟩:=hx.tup;rfl
 | lst _=>obtain⟨ds,rfl | ⟨a,rfl,h1⟩,h2⟩:=hx.lst <;> rfl
 | yk=>obtain⟨a,kvs,rfl,h1⟩:=hx.yk;rfl
theorem mS {neg:Bool}:Good2 zS (wC neg) (wD neg):=λ S Z x y z d e Q hz hx hy ef hq=>by
 unfold wC at ef;split at ef
 .cases ef;cases hx.bl;cases hy.bl;exact hq _ S (.refl S) (Cl.of (λ _=>nofun) vq)
 .cases ef;cases hy.zl;have key:Q (.bl (cond neg (!oH d) (oH d))) S:=by
   rw[Q8 hx];exact hq _ S (.refl S) (Cl.of (λ _=>nofun) vq)
  unfold wD;cases d <;> exact key
 .cases ef
theorem bV (ha:PD X a ta) (hb:PD X b tb):PD X (.Compare a [.IsNot] [b] pos) (yD (wD true) ta tb):=kK (aj.or ai) wD.ZF wD.mo ha hb (uM _)
theorem bM (ha:PD X a ta) (hb:PD X b tb):wj X (.Compare a [.Is] [b] pos) (vZ (yD (wD false) ta tb)):=rm (Si.or Sh) wD.fits wD.mo ha hb (uM _)
theorem Ts (ha:PD X a ta) (hb:PD X b tb):wj X (.Compare a [.IsNot] [b] pos) (vZ (yD (wD true) ta tb)):=rm (aj.or ai) wD.ZF wD.mo ha hb (uM _)
def Yo (td ty tv:zH):xx:=λ E δ S=>tv δ S λ v S1=>td δ S1 λ x S2=>ty δ S2 λ y S3=>∃ p ds k j,x=.ref p/\y=.int k/\S3 p=some (.lst ds)/\wL ds.length k=some j/\E.nx δ (ups S3 p (.lst (ds.set j v)))
theorem zv.set {H:Hp}{d:D}{x:V}(h:zk K H d x):∀ {ds:List D}{xs:List V}(j:Nat),zv K H ds xs->zv K H (ds.set j d) (xs.set j x)
 | [],xs,j,r=>by simp only[zv] at r;subst r;exact .nil
 | c::ds,xs,0,r=>by
  simp only[zv] at r;obtain⟨y,ys,rfl,_,r2⟩:=r;exact .cons h r2
 | c::ds,xs,j+1,r=>by
  simp only[zv] at r;obtain⟨y,ys,rfl,r1,r2⟩:=r;exact .cons r1 (zv.set h j r2)
theorem kG (ho:PD X o td) (hi:PD X i ty) (hv:PD X v tv) (hs:swapsWithSole [.Subscript o i pos'] v pos.line X.env=pure false:=by rfl) (hw:swappedStores [.Subscript o i pos'] v X.env=pure none:=by rfl)
  (h1:(assignEach [.Subscript o i pos'] X.env).map (·.2)=[assign (.Subscript o i pos') X.env]:=by rfl)
  (ha:∀ v,assign (.Subscript o i pos') X.env v=(do
   let ov <- holding [v] (eval o X.env)
   let iv <- holding [v,ov] (eval i X.env)
   standAt pos'
   holding [v,ov,iv] (setItem ov iv v)
   release [v,ov,iv] []):=by intro _;rfl):ud X (.Assign [.Subscript o i pos'] v pos) (Yo td ty tv):=by
 refine⟨λ E E' δ S hE z=>hv.mo δ S _ _ (λ w S1 z=>ho.mo δ S1 _ _ (λ x S2 z=>hi.mo δ S2 _ _ (λ y S3 ⟨p,ds,k,j,a,b,c,d,h⟩=>⟨p,ds,k,j,a,b,c,d,hE.nx _ _ h⟩) z) z) z,PS.imp (bF hv.pe (UK ho.pe hi.pe set_list ha) hs hw h1) λ D σ H hu=>?_⟩;obtain⟨δ,S,r1,r2,z⟩:=hu;refine yd.go hv.mo r1 r2 z λ w S1 w1 H1 h1 q1 e1 p1=>?_;refine yd.go ho.mo (r1.ext e1) p1 h1 λ x S2 w2 H2 h2 q2 e2 p2=>?_;refine yd.go hi.mo ((r1.ext e1).ext e2) p2 h2 λ y S3 w3 H3 h3 q3 e3 p3=>?_;obtain⟨p,ds,k,j,rfl,rfl,c1,c2,h⟩:=h3;simp only[zk] at q2 q3;subst q2 q3;obtain⟨xs,g1,g2⟩:=p3 _ _ c1;have e4:Ext H3 (upd H3 p (.lst (xs.set j w1))):=.lst g1 _;refine⟨p,xs,k,j,rfl,rfl,g1,by rw[<- g2.length];exact c2,?_⟩;exact h σ _ ((((r1.ext e1).ext e2).ext e3).ext e4) (((e1.trans e2).trans e3).trans e4) (p3.ups e4 ⟨_,xa,zv.ext e4 _ (zv.set (zk.ext (e2.trans e3) w q1) j g2)⟩)
@[simp] noncomputable def mJ (n:Nat) (f v:Ev->Option T):Sm:=fun ρ=>(v ρ).bind λ z=>(f ρ).bind λ y=>match ρ[n]?,y with
 | some (some (.own (.lst ts))),.int k=>(wL ts.length k).map λ j=>.nx (ρ.set n (some (.own (.lst (ts.set j z)))))
 | _,_=>none
theorem kQ {R:Rk}(n:Nat) {f v:Ev->Option T}(hf:yI f ty) (hv:ue v tv):xy R (mJ n f v) (Yo (yY n) ty tv):=λ S0 Z0 S Z δ ρ o E F e P=>by
 obtain⟨z,e1,e⟩:=zOb e;obtain⟨x,e2,e3⟩:=zOb e;split at e3
 .rename_i ts k h;obtain⟨j,hj,rfl⟩:=zOm e3;refine hv S Z δ ρ z _ F.er e1 λ dz S1 s1 r1=>?_;have F1:=F.grow s1;obtain⟨p,ob,h1,h2,h3,h4⟩:=F1.er.ow n _ h;cases ob with
  | yy _=>exact h3.elim
  | lst ds=>
   show yY n δ S1 _;unfold yY;rw[h1];refine hf S1 Z δ ρ _ _ F1.er e2 λ d S2 s2 r2=>?_;cases Vw.int r2;have h5:zu (yj S2 Z) ts ds:=zu.sx (vx s2) ts h3;exact⟨p,ds,k,j,rfl,rfl,s2 _ _ h2,by rw[h5.len];exact hj,P _ Z δ ((F1.grow s2).mut (us:=.lst (ts.set j z)) (es:=.lst (ds.set j dz)) n h h1 (h5.cV j (Sn.sx (vx s2) z r1)))⟩
 .cases e3
theorem bZ {x y:Str}{u:Value}(hm:X.mg x=some u) (r:RelV (.str y) u) (hg:Gl X x:=by rfl) (hd:(x == ("__debug__":Str))=false:=by decide):PD X (.Name x pos) (dC (.str y)):=m7 (Td hg hm r hd) λ _=>by simp only[zk]
end
end L5
namespace ZP
open PySem PyProof.Rows
noncomputable def f6 (k:Bool):String:=cond k "tuple_iterator" "list_iterator"
def SI (h:Heap) (k:Bool) (it l:Addr) (i:Nat):Prop:=∃ o,h.get? it=some o/\o.cls=.type (f6 k)/\o.data=.fields #[.ref l,.int i 0]
def SQ (h:Heap) (k:Bool) (l:Addr) (xs:Array Value):Prop:=match k with
 | true=>h.IsTuple l xs
 | false=>h.IsList l xs
theorem SI.on {h h':Heap}{k:Bool}{it l:Addr}{i:Nat}(x:SI h k it l i) (f:∀ o,h.get? it=some o->h'.get? it=some o):SI h' k it l i:=
 let ⟨o,ho,r⟩:=x;⟨o,f o ho,r⟩
theorem SQ.on {h h':Heap}{k:Bool}{l:Addr}{xs:Array Value}(x:SQ h k l xs) (f:∀ o,h.get? l=some o->h'.get? l=some o):SQ h' k l xs:=by
 cases k with
 | true=>obtain⟨o,ho,r⟩:=(show h.IsTuple l xs from x);exact⟨o,f o ho,r⟩
 | false=>obtain⟨o,ho,r⟩:=(show h.IsList l xs from x);exact⟨o,f o ho,r⟩
theorem SQ.lt {h:Heap}{k:Bool}{l:Addr}{xs:Array Value}(x:SQ h k l xs):l<h.objs.size:=by
 cases k with
 | true=>obtain⟨o,ho,_⟩:=(show h.IsTuple l xs from x);exact Heap.lt_size ho
 | false=>obtain⟨o,ho,_⟩:=(show h.IsList l xs from x);exact Heap.lt_size ho
theorem SQ.cls {h:Heap}{k:Bool}{l:Addr}{xs:Array Value}(x:SQ h k l xs):∃ o,h.get? l=some o/\o.cls=.type (cond k "tuple" "list"):=by
 cases k with
 | true=>obtain⟨o,ho,c,_⟩:=(show h.IsTuple l xs from x);exact⟨o,ho,c⟩
 | false=>obtain⟨o,ho,c,_⟩:=(show h.IsList l xs from x);exact⟨o,ho,c⟩
section
variable {prog:Program}{w:World}{A:Around}{E:Value->Shared->Prop}{s:Shared}
theorem made {k:Bool}{l:Addr}{xs:Array Value}{Q:Value->Shared->Prop}(hl:SQ s.heap k l xs)
  (hQ:Q (.ref s.heap.objs.size) { s with heap:=s.heap.push { cls:=.type (f6 k),data:=.fields #[.ref l,.int 0 0] } }):wpAny (model prog w) A (pyIter (.ref l)) Q E s:=by
 cases k with
 | true=>exact wpAny_pyIter_tuple hl hQ
 | false=>exact wpAny_pyIter_list hl hQ
theorem PM {it l:Addr}{i:Nat}{xs:Array Value}{x:Value}{Q:Value->Shared->Prop}(hit:s.heap.IsTupleIter it l i) (hl:s.heap.IsTuple l xs) (hx:xs[i]?=some x)
  (hQ:∀ h',h'.IsTupleIter it l (i+1)->Heap.SameBut it s.heap h'->Q x { s with heap:=h' }):wpAny (model prog w) A (Builtin.SmallTypes.nextOf (.ref it)) Q E s:=by
 have ht:=hit.typeIs;obtain⟨oi,e1,e2,e3⟩:=id hit;obtain⟨ol,g1,_,n,g2⟩:=hl;refine zWb (wpAny_callSpecial?_slot (name:=Str.ofString "__next__") ht F.slot_tuple_iterator_next (wpAny_call_entry F.slot_tuple_iterator_next ht F.entry_tuple_iterator_next ?_ (F.args_tuple_iterator_next_1 _)));refine zWb (m:=field (.ref it) 0) (wpAny_field e1 e3 (x:=.ref l) rfl ?_);dsimp only;rw[if_neg (show ¬ ((Value.ref l == Value.none)=true) from Bool.false_ne_true)];refine zWb (m:=field (.ref it) 1) (wpAny_field e1 e3 (x:=.int i 0) rfl ?_);dsimp only;refine zWb (m:=seqItems? (.ref l)) (wpAny_seqItems g1 g2 ?_);simp only[Int.toNat_natCast,hx];have there:=Heap.get?_update_self (Obj.mapFields λ y=>y.setIfInBounds 1 (rawInt ((i:Int)+1))) e1 (Obj.isFreed_of_fields (Obj.data_mapFields e3 _));refine zWb (wpAny_setField e1 e3 (by simp) (wpAny_pure ⟨x,rfl,wpAny_pure (hQ _ ⟨_,there,(Obj.cls_mapFields ..).trans e2,?_⟩ (Heap.SameBut.update ..))⟩));rw[Obj.data_mapFields e3];simp[rawInt]
theorem Pz {it l:Addr}{i:Nat}{xs:Array Value}{Q:Value->Shared->Prop}(hh:A.handled=none) (hit:s.heap.IsTupleIter it l i) (hl:s.heap.IsTuple l xs) (hx:xs[i]?=none)
  (hE:∀ h' e,Heap.ExtBut it s.heap h'->(∃ o,h'.get? e=some o/\o.cls=.type "StopIteration")->E (.ref e) { s with heap:=h' }):wpAny (model prog w) A (Builtin.SmallTypes.nextOf (.ref it)) Q E s:=by
 have ht:=hit.typeIs;obtain⟨oi,e1,e2,e3⟩:=id hit;obtain⟨ol,g1,_,n,g2⟩:=hl;refine zWb (wpAny_callSpecial?_slot (name:=Str.ofString "__next__") ht F.slot_tuple_iterator_next (wpAny_call_entry F.slot_tuple_iterator_next ht F.entry_tuple_iterator_next ?_ (F.args_tuple_iterator_next_1 _)));refine zWb (m:=field (.ref it) 0) (wpAny_field e1 e3 (x:=.ref l) rfl ?_);dsimp only;rw[if_neg (show ¬ ((Value.ref l == Value.none)=true) from Bool.false_ne_true)];refine zWb (m:=field (.ref it) 1) (wpAny_field e1 e3 (x:=.int i 0) rfl ?_);dsimp only;refine zWb (m:=seqItems? (.ref l)) (wpAny_seqItems g1 g2 ?_);simp only[Int.toNat_natCast,hx];refine zWb (wpAny_rule (zWb (wpAny_setField e1 e3 (by simp) ?_)));refine zWb (m:=newExc (.type "StopIteration") []) ?_;simp only[newExc,newTuple];refine zWb (wpAny_newObj_type (zWb (m:=firstArgMember _ _) (wpAny_of_eq (a:=Value.none) (by first | rfl | (simp only[firstArgMember];rfl)) (wpAny_newObj_type ?_ (by size_fits)))) (by size_fits));simp only[raiseNew];refine zWb (wpAny_handled ?_);rw[show A.in1.handled=none from hh];exact zWb (wpAny_pure (wpAny_throw (hE _ _ (((Heap.SameBut.update ..).extBut.push _).push _) ⟨_,Heap.get?_push_size _ rfl,rfl⟩)))
theorem draw {k:Bool}{it l:Addr}{i:Nat}{xs:Array Value}{x:Value}{Q:Value->Shared->Prop}(hit:SI s.heap k it l i) (hl:SQ s.heap k l xs) (hx:xs[i]?=some x)
  (hQ:∀ h',SI h' k it l (i+1)->Heap.SameBut it s.heap h'->Q x { s with heap:=h' }):wpAny (model prog w) A (Builtin.SmallTypes.nextOf (.ref it)) Q E s:=by
 cases k with
 | true=>exact PM hit hl hx hQ
 | false=>exact wpAny_nextOf_list_item hit hl hx hQ
theorem ZX {k:Bool}{it l:Addr}{i:Nat}{xs:Array Value}{Q:Value->Shared->Prop}(hh:A.handled=none) (hit:SI s.heap k it l i) (hl:SQ s.heap k l xs) (hx:xs[i]?=none)
  (hE:∀ h' e,Heap.ExtBut it s.heap h'->(∃ o,h'.get? e=some o/\o.cls=.type "StopIteration")->E (.ref e) { s with heap:=h' }):wpAny (model prog w) A (Builtin.SmallTypes.nextOf (.ref it)) Q E s:=by
 cases k with
 | true=>exact Pz hh hit hl hx hE
 | false=>exact wpAny_nextOf_list_end hh hit hl hx hE
end
end ZP
namespace ZP
open PySem PyProof.Rows
abbrev mM (k:Bool) (l:Addr):Obj:={ cls:=.type (f6 k),data:=.fields #[.ref l,.int 0 0] }
section
variable {prog:Program}{w:World}{A:Around}{E:Value->Shared->Prop}{s:Shared}
end
end ZP
namespace L2
open PySem PySem.Spec PyProof.Rows ZP
section
variable {X:Cx}{pins:List (Addr×Obj)}{σ:St}{H:Hp}{s:Shared}
theorem Inv.c9 {h':Heap}{t':Nat}{fp:List Addr}(I:Inv X pins σ H s) (k:∀ b o,b∉fp->s.heap.get? b=some o->h'.get? b=some o) (hf:∀ b∈fp,uE X pins H b):Inv X pins σ H { s with heap:=h',toks:=t' }:=by
 have nit:∀ b u,H b=some u->b∉fp:=λ b u e z=>by rw[(hf b z).1] at e;cases e
 refine I.step (g':=s.gens) (d':=s.drawn) (ch:=fp) (λ b hb=>?_) (λ b o _ _ hc e _=>k b o hc e) (λ b o _ _ hc e _=>⟨o.slots,k b o hc e⟩) (λ _ _ _ _ n=>n)
  (λ b o hc e=>⟨o,k b o hc e⟩) (λ _ _ e=>e) (λ _ _ _ e=>e) (λ b ps e=>⟨#[],by rw[e];simp⟩) (λ m hm=>?_) (λ b u e=>?_) I.bare
 .obtain⟨_,q1,_,q2,q3,q4⟩:=hf b hb;exact⟨q2,q1,q3,q4⟩
 .obtain⟨o,es,ep,ho,r⟩:=hm;exact⟨o,es,ep,k _ o (λ z=>(hf _ z).2.1 rfl) ho,r⟩
 .refine (I.zJ b u e).ra (λ c v hc q=>k c v ?_ q) (λ _ q=>q) λ _ _ q=>q;rcases hc with z | z
  .rw[z];exact nit b u e
  .exact nit c _ z
def sQ (K:PySem.W.Frag) (H:Hp) (k:Bool) (a:Addr) (xs:List V):Prop:=match k with
 | true=>ym K H a xs
 | false=>yf K H a xs
theorem sQ.of (I:Inv X pins σ H s) {k:Bool}{a:Addr}{xs:List V}(h:sQ X.K H k a xs):∃ its:List Value,Vals xs its/\SQ s.heap k a its.toArray:=by
 cases k with
 | true=>obtain⟨its,rv,p,_⟩:=I.tuple h;exact⟨its,rv,p⟩
 | false=>obtain⟨its,rv,p,_⟩:=I.list h;exact⟨its,rv,p.isList⟩
theorem sQ.inj (I:Inv X pins σ H s) {k:Bool}{a:Addr}{xs ys:List V}(h:sQ X.K H k a xs) (h':sQ X.K H k a ys):xs=ys:=by
 cases k with
 | true=>exact I.ir h h'
 | false=>exact I.fh h h'
end
end L2
namespace L5
open PySem PySem.Spec L2 L3
open PyProof.Rows hiding St
section
variable {X:Cx}{K:PySem.W.Frag}{a b:Expr}{tA:yK}{pos p pos':Pos}
noncomputable def fu:D->Bool
 | .tup _=>true
 | _=>false
theorem yw.k {H:Hp}{S:SS}{d:D}{v:V}{ds:List D}(r:zk K H d v) (p:z_ K H S) (e:yw d S=some ds):∃ a xs,v=.ref a/\sQ K H (fu d) a xs/\zv K H ds xs:=by
 by_cases q:∃ ts,d=.tup ts
 .obtain⟨ts,rfl⟩:=q;cases e;simp only[zk] at r;obtain⟨a,xs,h1,h2,h3⟩:=r;exact⟨a,xs,h1,h2,h3⟩
 .obtain⟨a,xs,h1,h2,h3⟩:=qa r p e λ ts z=>q ⟨ts,z⟩;refine⟨a,xs,h1,?_,h3⟩;have:fu d=false:=by cases d <;> first | rfl | exact absurd ⟨_,rfl⟩ q
  rw[this];exact h2
end
end L5
namespace L5
open PySem PySem.Spec L2 L3
open PyProof.Rows hiding St
section
variable {X:Cx}{K:PySem.W.Frag}{a b:Expr}{tA:yK}{pos p pos':Pos}{es:List Expr}{kk:Nat}
theorem yw.sx {S S':SS}{d:D}{ds:List D}(h:yw d S=some ds) (s:Sx S S'):yw d S'=some ds:=by
 unfold yw at h ⊢;split at h
 .exact h
 .exact h
 .split at h
  .rename_i q;cases h;rw[s _ _ q]
  .cases h
 .cases h
end
end L5
namespace HT
open PySem PyProof.Rows
section
variable {prog:Program}{w:World}{A:Around}{E:Value->Shared->Prop}{s:Shared}
theorem Oh {t sl:Addr}{items:Array Value}{vl vu:Value}{lo hi:Option Int}{Q:Value->Shared->Prop}(ht:IsTup s.heap t items) (hs:s.heap.IsSliceOf sl vl vu .none) (pl:IsPart vl lo) (pu:IsPart vu hi)
  (hw:zU items.size 0 lo=0/\zU items.size items.size hi=items.size) (h:Q (.ref t) s):wpAny (model prog w) A (getItem (.ref t) (.ref sl)) Q E s:=by
 have hT:=ht.typeIs;obtain⟨os,e1,e2,e3⟩:=id hs;have hS:s.TypeIs (.ref sl) "slice":=⟨os,e1,e2⟩
 unfold getItem
 try with_reducible refine wpAny_holding ?_
 first | refine zWb (wpAny_pure ?_) | skip
 refine zWb (wpAny_sequenceKey hT (by decide) (zWb (wpAny_callSpecial?_slot (name:=Str.ofString "__getitem__") hT PyProof.Rows.slot_tuple_getitem (wpAny_call_entry PyProof.Rows.slot_tuple_getitem hT entry_tuple_getitem ?_ (args_tuple_getitem _ _)))));refine zWb (m:=Builtin.Tuple.tupleItemsOf (.ref t)) (tupleItemsOf_ ht (zWb (wpAny_typeOf hS ?_)));rw[if_pos (by decide)];refine zWb (cQ hs pl pu ?_);have yes:(((zU items.size 0 lo:Nat):Int) == 0&&(1:Int) == 1&&(zU items.size items.size hi-zU items.size 0 lo) == items.size)=true:=by rw[hw.1,hw.2];simp
 show wpAny _ _ (if (((zU items.size 0 lo:Nat):Int) == 0&&(1:Int) == 1&&(zU items.size items.size hi-zU items.size 0 lo) == items.size)=true then _ else _) _ _ s;rw[if_pos yes];refine zWb (m:=Builtin.Tuple.tupleIsExact (.ref t)) (zWb (wpAny_typeOf hT (wpAny_pure ?_)));rw[if_pos (by decide)]
 first
  | exact zWb (wpAny_rule (wpAny_pure ⟨_,rfl,wpAny_pure h⟩))
  | exact zWb (wpAny_rule (zWb (wpAny_pure (wpAny_pure ⟨_,rfl,wpAny_pure h⟩))))
end
end HT
namespace L2
open PySem PySem.Spec PyProof.Rows
section
variable {X:Cx}
def bu (K:PySem.W.Frag):V->Option Int->Option Int->Hp->VK->Prop:=λ x lo hi H Q=>∃ a xs,x=.ref a/\ym K H a xs/\(HT.zU xs.length 0 lo=0/\HT.zU xs.length xs.length hi=xs.length)/\Q (.ref a) H
theorem V1:qE X (bu X.K):=by
 intro pins s σ H x v vl vu lo hi sl Q I rx hs pl pu h;obtain⟨a,xs,rfl,hx,hw,q⟩:=h;cases rx;obtain⟨its,r,ht,hz⟩:=I.tuple hx;have hlen:its.toArray.size=xs.length:=by rw[List.size_toArray];exact r.length.symm
 exact⟨"tuple",_,PyProof.Rows.slot_tuple_getitem.lookup,ht.typeIs,HT.Oh ht hs pl pu (by rw[hlen];exact hw) ⟨.ref a,H,I,rfl,q⟩⟩
end
end L2
namespace L5
open PySem PySem.Spec L2 L3
open PyProof.Rows hiding St
noncomputable def uY {α:Type}(xs:List α) (lo hi:Option Int):List α:=(xs.drop (HT.zU xs.length 0 lo)).take (HT.zU xs.length xs.length hi-HT.zU xs.length 0 lo)
section
variable {X:Cx}{K:PySem.W.Frag}{e:Expr}{lo hi:Option Expr}{te:zH}{tl th:Option zH}{pos p2:Pos}
def tR (t:Option zH):yz->SS->(Option Int->SS->Prop)->Prop:=fun δ S Q=>match t with
 | none=>Q none S
 | some t=>t δ S λ d S1=>match d with
  | .int i=>Q (some i) S1
  | _=>False
def Y_ (t:Option zH):Prop:=∀ u,t=some u->y6 u
theorem tR.mo (h:Y_ tl):∀ δ S (Q Q':Option Int->SS->Prop),(∀ d S',Q d S'->Q' d S')->tR tl δ S Q->tR tl δ S Q':=fun δ S Q Q' hq z=>by
 cases tl with
 | none=>exact hq _ _ z
 | some t=>exact h t rfl δ S _ _ (λ d S1 z=>by cases d <;> first | exact hq _ _ z | exact z) z
noncomputable def W7 (K:PySem.W.Frag) (t:Option zH):TO:=fun σ H Q=>∃ δ S,xp K H δ σ/\z_ K H S/\tR t δ S λ o S1=>∀ H1,Ext H H1->z_ K H1 S1->Q o H1
structure jK (X:Cx) (e:Option Expr) (t:Option zH):Prop where
 mo:Y_ t
 po:PO X e (W7 X.K t)
theorem bO:jK X none none:=⟨nofun,λ pins s σ H Q I h=>by
 obtain⟨δ,S,r1,r2,z⟩:=h;exact U8 pins s σ H Q I (z H (.refl H) r2)⟩
theorem bN (h:PD X e te):jK X (some e) (some te):=⟨λ u q=>by cases q;exact h.mo,λ pins s σ H Q I hu=>by
 refine U7 h.pe pins s σ H Q I ?_;obtain⟨δ,S,r1,r2,z⟩:=hu;refine yd.go h.mo r1 r2 z λ d S1 v H1 h1 q1 e1 p1=>?_;cases d with
 | int i=>simp only[zk] at q1;exact⟨i,q1,h1 H1 e1 p1⟩
 | zl=>exact h1.elim
 | bl _=>exact h1.elim
 | str _=>exact h1.elim
 | tup _=>exact h1.elim
 | xb _=>exact h1.elim
 | ref _=>exact h1.elim⟩
def tP (d:D) (lo hi:Option Int) (S:SS) (Q:DK):Prop:=match d with
 | .tup ds=>Q (.tup (uY ds lo hi)) S
 | d=>∃ ds,yw d S=some ds/\∀ p,S p=none->Q (.ref p) (ups S p (.lst (uY ds lo hi)))
theorem tP.mo {d:D}{lo hi:Option Int}{S:SS}{Q Q':DK}(hq:∀ d S',Q d S'->Q' d S') (h:tP d lo hi S Q):tP d lo hi S Q':=by
 unfold tP at h ⊢;split at h
 .exact hq _ _ h
 .obtain⟨ds,h1,h2⟩:=h;exact⟨ds,h1,λ p hp=>hq _ _ (h2 p hp)⟩
theorem zv.cut {H:Hp}{ds:List D}{xs:List V}(h:zv K H ds xs) (lo hi:Option Int):zv K H (uY ds lo hi) (sL xs lo hi):=by
 have hd:∀ {ds:List D}{xs:List V}(n:Nat),zv K H ds xs->zv K H (ds.drop n) (xs.drop n):=by
  intro ds
  induction ds with
  | nil=>intro xs n h;simp only[zv] at h;subst h;simpa using zv.nil
  | cons d ds ih=>
   intro xs n h;simp only[zv] at h;obtain⟨y,ys,rfl,h1,h2⟩:=h;cases n with
   | zero=>exact .cons h1 h2
   | succ n=>exact ih n h2
 have ht:∀ {ds:List D}{xs:List V}(n:Nat),zv K H ds xs->zv K H (ds.take n) (xs.take n):=by
  intro ds
  induction ds with
  | nil=>intro xs n h;simp only[zv] at h;subst h;simpa using zv.nil
  | cons d ds ih=>
   intro xs n h;simp only[zv] at h;obtain⟨y,ys,rfl,h1,h2⟩:=h;cases n with
   | zero=>exact .nil
   | succ n=>exact .cons h1 (ih n h2)
 unfold uY sL;rw[h.length];exact ht _ (hd _ h)
theorem Oi {xs:List V}{lo hi:Option Int}(h:HT.zU xs.length 0 lo=0/\HT.zU xs.length xs.length hi=xs.length):sL xs lo hi=xs:=by
 unfold sL;rw[h.1,h.2];simp
abbrev Ue (K:PySem.W.Frag):V->Option Int->Option Int->Hp->VK->Prop:=λ x lo hi H Q=>bx K x lo hi H Q\/(bw K x lo hi H Q\/bu K x lo hi H Q)
theorem tP.fits {d:D}{v:V}{lo hi:Option Int}{H:Hp}{S:SS}{Q:VK}(h1:zk K H d v) (h2:z_ K H S) (h:tP d lo hi S (vm K H Q)):Ue K v lo hi H Q:=by
 unfold tP at h;split at h
 .simp only[zk] at h1;obtain⟨a,xs,rfl,g1,g2⟩:=h1;by_cases hw:HT.zU xs.length 0 lo=0/\HT.zU xs.length xs.length hi=xs.length
  .refine .inr (.inr ⟨a,xs,rfl,g1,hw,h _ H ?_ (.refl H) h2⟩);simp only[zk];refine⟨a,xs,rfl,g1,?_⟩;have:=zv.cut g2 lo hi;rw[Oi hw] at this;exact this
  .refine .inr (.inl ⟨a,xs,rfl,g1,hw,λ p hp=>h _ _ ?_ (.new hp _) (h2.new hp)⟩);simp only[zk];exact⟨p,_,rfl,ym.of xa,zv.ext (.new hp _) _ (zv.cut g2 lo hi)⟩
 .rename_i hn;obtain⟨ds,e,h⟩:=h;obtain⟨a,xs,rfl,g1,g2⟩:=qa h1 h2 e (λ ts z=>hn ts z);exact .inl ⟨a,xs,rfl,g1,λ p hp=>h p (h2.none hp) _ _ (by simp only[zk]) (.new hp _) (h2.ups (.new hp _) ⟨_,xa,zv.ext (.new hp _) _ (zv.cut g2 lo hi)⟩)⟩
def Yj (te:zH) (tl th:Option zH):zH:=fun δ S Q=>te δ S λ x S1=>tR tl δ S1 λ l S2=>tR th δ S2 λ u S3=>tP x l u S3 Q
theorem bS (he:PD X e te) (hl:jK X lo tl) (hh:jK X hi th):PD X (.Subscript e (.Slice lo hi none p2) pos) (Yj te tl th):=by
 refine⟨fun δ S Q Q' hq z=>he.mo δ S _ _ (λ x S1 z=>tR.mo hl.mo δ S1 _ _ (λ l S2 z=>tR.mo hh.mo δ S2 _ _ (λ u S3 z=>tP.mo hq z) z) z) z,
  PE.imp (UT (V3.or (V2.or V1)) he.pe hl.po hh.po) fun σ H Q hu=>?_⟩
 obtain⟨δ,S,r1,r2,z⟩:=hu;refine yd.go he.mo r1 r2 z λ x S1 v H1 h1 q1 e1 p1=>?_;refine⟨δ,S1,r1.ext e1,p1,tR.mo hl.mo δ S1 _ _ (λ l S2 h2 H2 e2 p2=>?_) h1⟩;refine⟨δ,S2,(r1.ext e1).ext e2,p2,tR.mo hh.mo δ S2 _ _ (λ u S3 h3 H3 e3 p3=>?_) h2⟩;exact tP.fits (zk.ext (e2.trans e3) x q1) p3 (tP.mo (λ d S' z=>z.ext ((e1.trans e2).trans e3)) h3)
@[simp] noncomputable def eE:Option (Ev->Option T)->Ev->Option (Option Int)
 | none,_=>some none
 | some f,ρ=>(f ρ).bind λ x=>match x with
  | .int i=>some (some i)
  | _=>none
def jR (f:Option (Ev->Option T)) (t:Option zH):Prop:=∀ S Z δ ρ y Q,ER S Z δ ρ->eE f ρ=some y->(∀ S',Sx S S'->Q y S')->tR t δ S Q
theorem a9:jR none none:=λ S Z δ ρ y Q hE e hq=>by cases e;exact hq S (.refl S)
theorem az {f:Ev->Option T}(h:yI f te):jR (some f) (some te):=λ S Z δ ρ y Q hE e hq=>by
 obtain⟨x,e1,e2⟩:=zOb e;refine h S Z δ ρ x _ hE e1 λ d S1 s1 r1=>?_;split at e2
 .cases e2;cases Vw.int r1;exact hq S1 s1
 .cases e2
@[simp] noncomputable def Yv (lo hi:Option Int):T->Option T
 | .tup ts=>some (.tup (uY ts lo hi))
 | .lst ts=>some (.lst (uY ts lo hi))
 | _=>none
@[simp] noncomputable def i8 (f:Ev->Option T) (lo hi:Option (Ev->Option T)):Ev->Option T:=fun ρ=>(f ρ).bind λ x=>(eE lo ρ).bind λ l=>(eE hi ρ).bind λ u=>Yv l u x
theorem zu.cut {S:SS}{ts:List T}{ds:List D}(h:zu S ts ds) (lo hi:Option Int):zu S (uY ts lo hi) (uY ds lo hi):=by
 unfold uY;rw[h.len];exact zu.take' _ (zu.drop' _ h)
theorem aA {f:Ev->Option T}{l u:Option (Ev->Option T)}(h:yI f te) (hl:jR l tl) (hu:jR u th):xX (i8 f l u) (Yj te tl th):=λ S Z δ ρ y Q hE e hq=>by
 obtain⟨x,e1,e⟩:=zOb e;obtain⟨l',e2,e⟩:=zOb e;obtain⟨u',e3,e⟩:=zOb e;refine h S Z δ ρ x _ hE e1 λ d S1 s1 r1=>?_;refine hl S1 Z δ ρ l' _ (hE.grow s1) e2 λ S2 s2=>?_;refine hu S2 Z δ ρ u' _ (hE.grow (s1.trans s2)) e3 λ S3 s3=>?_;have r3:Vw S3 Z x d:=Vw.grow r1 (s2.trans s3);have hz:=(hE.grow ((s1.trans s2).trans s3)).zd;unfold Yv at e;split at e
 .cases e;obtain⟨ds,rfl,h2⟩:=r3.tup;exact hq _ S3 ((s1.trans s2).trans s3) (Cl.of (λ _=>nofun) (pZ (zu.cut h2 _ _)))
 .cases e;obtain⟨ds,h1,h2⟩:=r3.seq rfl;have key:∃ ds,yw d S3=some ds/\∀ p,S3 p=none->Q (.ref p) (ups S3 p (.lst (uY ds l' u'))):=⟨ds,h1,λ p hp=>hq _ _ (((s1.trans s2).trans s3).trans (.new hp _)) (Cl.cl ((s1.trans s2).trans s3) (rh hz hp (zu.cut h2 _ _)))⟩
  obtain⟨_,q | ⟨a,q,_⟩,_⟩:=r3.lst
  .subst q;exact key
  .subst q;exact key
 .cases e
end
end L5
namespace TM
open PySem PyProof.Rows
set_option maxRecDepth 100000
theorem noFill:fillsNumberSlot (.type "tuple") "mul"=pure false:=
 PySem.fillsNumberSlot_seq (id:="tuple.__mul__") (r:=some (.builtin "tuple.__rmul__")) F.slot_tuple_mul.lookup (by decide +kernel) F.slot_tuple_rmul.lookup (by decide +kernel)
theorem rep:seqRepeat? (.type "tuple")=pure (some (.builtin "tuple.__mul__")):=by
 have a:=PySem.seqSlot_of (T:="tuple") (name:="__mul__") (id:="tuple.__mul__") F.slot_tuple_mul.lookup (by decide +kernel);have b:=PySem.seqSlot_of (T:="tuple") (name:="__rmul__") (id:="tuple.__rmul__") F.slot_tuple_rmul.lookup (by decide +kernel);unfold seqRepeat?;rw[a,b];rfl
theorem declines (i:Int) (t:Tok) (l:Addr) (items:Array Value) (n:Nat) (dd:Option Addr) (sl:Array (Option Value)):
  Meets (Builtin.«int.__rmul__» ⟨[.int i t,.ref l],[]⟩) (λ _ R s=>s.heap.get? l=some { cls:=.type "tuple",dict:=dd,data:=.seq items n,slots:=sl }/\R (.ok (.ret Value.notImplemented)) s):=
 .of_wp λ prog w A R s h=>by
  obtain⟨hp,g,d,tk,os⟩:=s;obtain⟨hl,h⟩:=h
  wp_walk
  exact⟨_,rfl,h⟩
theorem fP {α:Type}(xs:List α):∀ (m:Nat) (acc:Array α),(List.replicate m xs.toArray).foldl (·++·) acc=acc++(List.replicate m xs).flatten.toArray
 | 0,acc=>by simp
 | m+1,acc=>by
  rw[List.replicate_succ,List.foldl_cons,fP xs m,List.replicate_succ,List.flatten_cons,Array.append_assoc];simp
theorem RP (k:Int) (t:Tok) (l:Addr) (items:Array Value) (n:Nat) (dd:Option Addr) (sl:Array (Option Value)) (h1:¬ (decide (k < -(2 ^ 63))||decide (k≥2 ^ 63))=true) (h2:¬ (items.isEmpty||k == 1)=true) (h3:¬ (decide (k<=0)||items.isEmpty)=true)
  (h4:¬ (items.size*k>(2 ^ 63-1)/8)) (h5:¬ Builtin.Tuple.tupleTooMany (items.size*k)=true) (h6:((List.replicate k.toNat items).foldl (·++·) #[]).size<=sizeLine):
  Meets (Builtin.«tuple.__mul__» ⟨[.ref l,.int k t],[]⟩) (λ _ R s=>s.heap.get? l=some { cls:=.type "tuple",dict:=dd,data:=.seq items n,slots:=sl }/\
   R (.ok (.ret (.ref s.heap.objs.size))) { s with heap:=s.heap.push { cls:=.type "tuple",data:=.seq ((List.replicate k.toNat items).foldl (·++·) #[]) } }):=
 .of_wp λ prog w A R s h=>by
  obtain⟨hp,g,d,tk,os⟩:=s;obtain⟨hl,h⟩:=h;have e0:IsTup (Shared.heap ⟨hp,g,d,tk,os⟩) l items:=⟨_,hl,rfl,n,rfl⟩
  wp_walk
  rw[if_neg h1];refine zWb (m:=Builtin.Tuple.tupleItemsOf (.ref l)) (tupleItemsOf_ e0 ?_);dsimp only;rw[if_neg h2,if_neg h3,if_neg h4,if_neg h5];exact zWb (m:=Builtin.Tuple.tupleExact _) (wpAny_newObj_type (wpAny_pure ⟨_,rfl,h⟩) h6)
theorem RQ (t:Tok) (l:Addr) (items:Array Value) (n:Nat) (dd:Option Addr) (sl:Array (Option Value)):
  Meets (Builtin.«tuple.__mul__» ⟨[.ref l,.int 1 t],[]⟩) (λ _ R s=>s.heap.get? l=some { cls:=.type "tuple",dict:=dd,data:=.seq items n,slots:=sl }/\R (.ok (.ret (.ref l))) s):=
 .of_wp λ prog w A R s h=>by
  obtain⟨hp,g,d,tk,os⟩:=s;obtain⟨hl,h⟩:=h;have c:(items.isEmpty||(1:Int) == 1)=true:=by simp
  wp_walk
  exact⟨_,rfl,h⟩
section
variable {prog:Program}{w:World}{A:Around}{E:Value->Shared->Prop}{s:Shared}
theorem times {l:Addr}{its:List Value}{k:Int}{t:Tok}{Q:Value->Shared->Prop}(ht:IsTup s.heap l its.toArray) (hne:its≠[]) (h0:1<=k) (hz:its.length*k.toNat<=sizeLine)
  (one:k=1->Q (.ref l) s) (more:k≠1->Q (.ref s.heap.objs.size) { s with heap:=s.heap.push { cls:=.type "tuple",data:=.seq (List.replicate k.toNat its).flatten.toArray } }):
  wpAny (model prog w) A (binaryOp .Mult (.ref l) (.int k t)) Q E s:=by
 have hT:=ht.typeIs;obtain⟨⟨cls,dd,data,sl⟩,ho,hc,n,hd⟩:=id ht;simp only at hc hd;subst hc hd;refine wpAny_binaryOp_repeat_ref (T:="tuple") (U:="int") (by decide) hT (λ s'=>typeIs_int s' k t) noFill F.fills_int_mul F.slot_int_rmul rep F.slot_int_index.lookup
  (call_meets F.slot_int_rmul (typeIs_int s k t) F.entry_int_rmul (F.args_int_rmul_2 _ _) (declines k t l its.toArray n dd sl) ⟨ho,rfl,hT,?_⟩)
 have hlen:0<its.length:=List.length_pos_iff.mpr hne;have hem:its.toArray.isEmpty=false:=by cases its with
  | nil=>exact absurd rfl hne
  | cons a r=>rfl
 by_cases h1:k=1
 .subst h1;exact call_meets F.slot_tuple_mul hT F.entry_tuple_mul (F.args_tuple_mul_2 _ _) (RQ t l its.toArray n dd sl) ⟨ho,one rfl⟩
 .have hks:k.toNat<=sizeLine:=Nat.le_trans (Nat.le_mul_of_pos_left _ hlen) hz;have hl:sizeLine=16777216:=rfl;have hk2:k<=16777216:=by omega
  have hcast:((its.toArray.size:Nat):Int)*k=((its.length*k.toNat:Nat):Int):=by
   rw[List.size_toArray,Int.natCast_mul,Int.toNat_of_nonneg (by omega)]
  have hf:(List.replicate k.toNat its.toArray).foldl (·++·) #[]=(List.replicate k.toNat its).flatten.toArray:=by rw[fP];simp
  have hfl:(List.replicate k.toNat its).flatten.length=k.toNat*its.length:=by simp
  refine call_meets F.slot_tuple_mul hT F.entry_tuple_mul (F.args_tuple_mul_2 _ _) (RP k t l its.toArray n dd sl ?_ ?_ ?_ ?_ ?_ ?_) ⟨ho,?_⟩
  .simp only[Bool.or_eq_true,decide_eq_true_eq,not_or];exact⟨by omega,by omega⟩
  .rw[hem];simpa using h1
  .rw[hem];simp;omega
  .rw[hcast];omega
  .rw[hcast];intro q;unfold Builtin.Tuple.tupleTooMany at q;have:=of_decide_eq_true q;omega
  .rw[hf,List.size_toArray,hfl,Nat.mul_comm];exact hz
  .rw[hf];exact more h1
end
end TM
namespace L2
open PySem PySem.Spec PyProof.Rows
def g7 (K:PySem.W.Frag):R2:=λ x y H Q=>∃ a k xs,x=.ref a/\y=.int k/\ym K H a xs/\xs≠[]/\1<=k/\xs.length*k.toNat<=sizeLine/\(k=1->Q (.ref a) H)/\(k≠1->∀ p,H p=none->Q (.ref p) (upd H p (.tup (List.replicate k.toNat xs).flatten)))
theorem T_ {X:Cx}:y4 X (binaryOp .Mult) (g7 X.K):=by
 intro pins s σ H x y v u Q I rx ry h;obtain⟨a,k,xs,rfl,rfl,hx,hne,h1,hz,q1,q2⟩:=h;cases rx;obtain⟨t,rfl⟩:=ry;obtain⟨its,r,ht,_⟩:=I.tuple hx;have hl:=r.length;refine TM.times ht (λ z=>hne (r.mE.mp z)) h1 (by rw[<- hl];exact hz) (λ e=>⟨.ref a,H,I,rfl,q1 e⟩) λ e=>?_;have hlen:(List.replicate k.toNat xs).flatten.length<=sizeLine:=by
  have:(List.replicate k.toNat xs).flatten.length=k.toNat*xs.length:=by simp
  rw[this,Nat.mul_comm];exact hz
 exact⟨.ref _,_,I.laid (t':=s.toks) (o:=.tup (List.replicate k.toNat xs).flatten) (λ b ob q=>zHp _ q) (Nat.le_refl _) ⟨hlen,_,r.rep k.toNat,IsTup.new _ _⟩,rfl,q2 e _ (I.zJ.fresh (Nat.le_refl _))⟩
end L2
namespace L5
open PySem PySem.Spec L2 L3
open PyProof.Rows hiding St
section
variable {X:Cx}{K:PySem.W.Frag}{a b:Expr}{ta tb:zH}{pos:Pos}
def sE:xq:=λ x y S Q=>match x,y with
 | .int i,.int j=>ve i j/\Q (.int (i*j)) S
 | .tup ds,.int k=>(ds≠[]/\1<=k/\ds.length*k.toNat<=sizeLine)/\Q (.tup (List.replicate k.toNat ds).flatten) S
 | _,_=>False
noncomputable def gR:T->T->Option T
 | .int i,.int j=>if ve i j then some (.int (i*j)) else none
 | .tup ts,.int k=>if ts≠[]/\1<=k/\ts.length*k.toNat<=sizeLine then some (.tup (List.replicate k.toNat ts).flatten) else none
 | _,_=>none
theorem sE.mo:w9 sE:=λ x y S Q Q' hq h=>by
 unfold sE at h ⊢;split at h
 .exact⟨h.1,hq _ _ h.2⟩
 .exact⟨h.1,hq _ _ h.2⟩
 .exact h.elim
theorem zv.rep {H:Hp}{ds:List D}{xs:List V}(h:zv K H ds xs):∀ n:Nat,zv K H (List.replicate n ds).flatten (List.replicate n xs).flatten
 | 0=>.nil
 | n+1=>by
  rw[List.replicate_succ,List.replicate_succ,List.flatten_cons,List.flatten_cons];exact h.append (zv.rep h n)
theorem sE.fits:xY K sE (λ x y H Q=>rI ve (λ i j=>.int (i*j)) x y H Q\/g7 K x y H Q):=λ x y d e H S Q h1 h2 h3 h=>by
 unfold sE at h;split at h
 .simp only[zk] at h1 h2;exact .inl ⟨_,_,h1,h2,h.1,h.2 _ H (by simp only[zk]) (.refl H) h3⟩
 .rename_i ds k;obtain⟨⟨c1,c2,c3⟩,h⟩:=h;have h1':=h1;simp only[zk] at h1 h2;obtain⟨a,xs,rfl,g1,g2⟩:=h1;have hl:=g2.length;refine .inr ⟨a,k,xs,rfl,h2,g1,λ z=>c1 (by subst z;cases ds with | nil=>rfl | cons _ _=>simp at hl),c2,by rw[<- hl];exact c3,λ e=>?_,λ e p hp=>?_⟩
  .subst e;refine h _ H ?_ (.refl H) h3;have:(List.replicate (1:Int).toNat ds).flatten=ds:=by simp
   rw[this];exact h1'
  .refine h _ _ ?_ (.new hp _) (h3.new hp);simp only[zk];exact⟨p,_,rfl,ym.of xa,zv.ext (.new hp _) _ (zv.rep g2 _)⟩
 .exact h.elim
theorem zu.rep {S:SS}{ts:List T}{ds:List D}(h:zu S ts ds):∀ n:Nat,zu S (List.replicate n ts).flatten (List.replicate n ds).flatten
 | 0=>.nil
 | n+1=>by
  rw[List.replicate_succ,List.replicate_succ,List.flatten_cons,List.flatten_cons];exact h.append (zu.rep h n)
theorem QU:Good2 zS gR sE:=λ S Z x y z d e Q hz hx hy ef hq=>by
 unfold gR at ef;split at ef
 .split at ef
  .rename_i hc;cases ef;cases hx.int;cases hy.int;exact⟨hc,hq _ S (.refl S) (Cl.of (λ _=>nofun) vB)⟩
  .cases ef
 .split at ef
  .rename_i hc;cases ef;obtain⟨ds,rfl,h2⟩:=hx.tup;cases hy.int;have hl:=h2.len;exact⟨⟨λ q=>hc.1 (by subst q;simpa using hl.symm),hc.2.1,by rw[hl];exact hc.2.2⟩,hq _ S (.refl S) (Cl.of (λ _=>nofun) (pZ (zu.rep h2 _)))⟩
  .cases ef
 .cases ef
end
end L5
namespace L4
open PySem PyProof.Rows
section
variable {prog:Program}{w:World}{A:Around}{E:Value->Shared->Prop}{s:Shared}
theorem Ow {l:Addr}{vs:List Value}{Q:List Value->Shared->Prop}(hl:IsTup s.heap l vs.toArray) (hz:vs.length<=sizeLine)
  (h:Q vs { s with heap:=(s.heap.push (seqObj "list" #[] 0)).update s.heap.objs.size (Obj.mapSeq (·++vs.toArray)) }):wpAny (model prog w) A (collect (.ref l)) Q E s:=by
 obtain⟨o,ho,hc,n,hd⟩:=id hl;have new:(s.heap.push (seqObj "list" #[] 0)).get? s.heap.objs.size=some (seqObj "list" #[] 0):=Heap.get?_push_size _ rfl;have ho':(s.heap.push (seqObj "list" #[] 0)).get? l=some o:=zHp _ ho;unfold collect;refine zWb (wpAny_runValue (codeAny_builtin entry_proto_collect' (zWb (m:=newList []) (wpAny_newList (wpAny_pure ⟨Code.quiet_builtin _ (by decide +kernel),codeAny_builtin entry_list_iadd' ?_⟩)))));show wpAny _ _ (Builtin.List.listExtendWith (.ref s.heap.objs.size) (.ref l) (.ref s.heap.objs.size)) _ _ { s with heap:=s.heap.push (seqObj "list" #[] 0) };unfold Builtin.List.listExtendWith;refine zWb (wpAny_typeOf (T:="tuple") ⟨o,ho',hc⟩ ?_);rw[if_pos (by rw[show (Value.type "tuple" == Value.type "tuple")=true from rfl];simp)];refine zWb (listItems_at ho' hd (zWb (listItems_at (xs:=#[]) (n:=0) new rfl ?_)));rw[if_neg (by simp)];refine zWb (listUpdate_at (xs:=#[]) (n:=0) new rfl (wpAny_pure ?_) (Nat.zero_le _) (by show (#[]++vs.toArray).size<=sizeLine+1;simp only[Array.size_append,List.size_toArray,List.length_nil];omega));refine zWb (m:=load s.heap.objs.size) (wpAny_load (get?_update_seq new _) ?_);show wpAny _ _ (pure ((#[]:Array Value)++vs.toArray).toList) Q E _;have e:((#[]:Array Value)++vs.toArray).toList=vs:=by simp
 rw[e];exact wpAny_pure h
theorem Vu {l:Addr}{vs:List Value}{Q:Value->Shared->Prop}{Out:Array Value->Prop}(hl:IsTup s.heap l vs.toArray) (hz:vs.length<=sizeLine)
  (core:2<=vs.length->∀ s6:Shared,(∀ b o,s.heap.get? b=some o->s6.heap.get? b=some o)->Core prog w A.in1.in1 E vs Out s6) (short:vs.length<2->Out vs.toArray)
  (fin:∀ out:Array Value,Out out->out.size=vs.length->Q (.ref (s.heap.objs.size+1)) { s with heap:=sortedAll s.heap vs out }):
  wpAny (model prog w) A (call (.builtin "sorted") [.ref l]) Q E s:=by
 let h1:=(s.heap.push (seqObj "list" #[] 0)).update s.heap.objs.size (Obj.mapSeq (·++vs.toArray))
 have sz:h1.objs.size=s.heap.objs.size+1:=by show (Heap.update _ _ _).objs.size=_;rw[Heap.size_update,size_push']
 have there:(h1.push (seqObj "list" vs.toArray 0)).get? (s.heap.objs.size+1)=some (seqObj "list" vs.toArray 0):=sz▸Heap.get?_push_size _ rfl;have keep:∀ b o,s.heap.get? b=some o->(h1.push (seqObj "list" vs.toArray 0)).get? b=some o:=λ b o q=>by
  refine zHp _ ?_;show (Heap.update _ _ _).get? b=_;rw[Heap.get?_update_ne _ _ _ _ (Nat.ne_of_lt (Heap.lt_size q))];exact zHp _ q
 refine Calls.call_function_entry kind_sorted plain_sorted entry_sorted (args_sorted1 _) ?_;unfold Builtin.«sorted»;refine zWb (m:=checkCount "sorted" 1 1 _) (wpAny_pure (zWb (Ow hl hz (zWb (wpAny_newList ?_ hz)))));show wpAny _ _ _ _ _ { s with heap:=h1.push (seqObj "list" vs.toArray 0) };rw[show (Heap.update (s.heap.push (seqObj "list" #[] 0)) s.heap.objs.size (Obj.mapSeq (·++vs.toArray))).objs.size=s.heap.objs.size+1 from sz];refine zWb (wpAny_holding (wpAny_call_entry slot_list_sort ⟨_,there,rfl⟩ entry_list_sort (fg there hz (λ h2 s6 k=>core h2 s6 λ b o q=>k b o (Nat.ne_of_lt (Nat.lt_succ_of_lt (Heap.lt_size q))) (keep b o q)) short λ out g1 g2=>⟨_,rfl,?_⟩) (args_list_sort _)));exact wpAny_pure ⟨_,rfl,fin out g1 g2⟩
end
section
open L2 PySem.Spec
variable {X:Cx}
theorem O7:y_ X (.builtin "sorted") (λ xs H Q=>∃ p ys,∃ rows:List (List Int),xs=[.ref p]/\ym X.K H p ys/\Paired (λ v r=>r≠[]/\∃ b,v=V.ref b/\ym X.K H b (r.map V.int)) ys rows/\rows.length<64/\
  ∀ (l:Addr) (idx:List Nat),H l=none->idx.Perm (List.range ys.length)->(idx.map λ i=>rows.getD i []).Pairwise (λ a b=>HT.lexLt b a=false)->Q (.ref l) (upd H l (.lst (idx.map λ i=>ys.getD i .zl)))):=by
 intro pins s σ H xs us Q I r h;obtain⟨p,ys,rows,rfl,hq,hr,h64,q⟩:=h;obtain⟨u,rfl,ru⟩:=vals1 r;cases ru;obtain⟨its,rv,pl,hz⟩:=I.tuple hq;have hl:=rv.length;have hlr:ys.length=rows.length:=Paired.length hr;have rows_at:∀ h6:Heap,(∀ b o,s.heap.get? b=some o->h6.get? b=some o)->rK h6 its rows:=λ h6 k=>by
  refine ST.Paired.mk (by omega) λ i a b ha hb=>?_;have hi:i<ys.length:=by have:=(List.getElem?_eq_some_iff.mp hb).1;omega
  obtain⟨hne,c,hc,hsq⟩:=L4.Paired.at' hr (i:=i) hi V.zl ([]:List Int);obtain⟨u,e1,e2⟩:=rv.get (i:=i) (x:=ys.getD i V.zl) (by simp[hi]);rw[ha] at e1;cases e1;rw[hc] at e2;cases (show a=Value.ref c from e2);obtain⟨its2,rv2,⟨o,e,hcl,n,hd⟩,_⟩:=I.tuple hsq;have eb:rows.getD i []=b:=by simp[hb]
  rw[eb] at hne rv2;exact⟨hne,c,o,_,n,rfl,k _ _ e,hcl,hd,by simpa using intsAre_of rv2⟩
 refine Vu (Out:=lE its rows) pl (by rw[<- hl];exact hz) (λ h2 s6 k=>ej (rows_at _ k) h2 (by omega)) (λ h1=>?_) λ out ho hs=>?_
 .refine⟨List.range its.length,.refl _,?_,?_⟩
  .refine List.ext_getElem (by simp) λ i h1 h2=>?_;simp at h1;simp[h1]
  .rw[List.pairwise_map,List.pairwise_iff_getElem];intro i j hi hj hij;simp at hi hj;omega
 .obtain⟨idx,g1,g2,g3⟩:=ho;obtain⟨e,ho⟩:=sortedAll_at s.heap its out;have g1':idx.Perm (List.range ys.length):=by rw[hl];exact g1
  refine⟨.ref (s.heap.objs.size+1),_,I.laid (t':=s.toks) (o:=.lst (idx.map λ i=>ys.getD i .zl)) (λ b o q=>sortedAll_old q) (Nat.le_succ _) ?_,rfl,q _ idx (I.zJ.fresh (Nat.le_succ _)) g1' g3⟩;refine⟨by rw[List.length_map,g1'.length_eq,List.length_range];exact hz,out.toList,e,?_,by simpa using ho⟩;rw[g2];refine ST.Paired.mk (by simp) λ j a b ha hb=>?_;rw[List.getElem?_map] at ha hb;obtain⟨i,hi,rfl⟩:=zOm ha;rw[hi] at hb;cases hb;have hil:i<ys.length:=by simpa using g1'.mem_iff.mp (List.mem_of_getElem? hi)
  obtain⟨u,e1,e2⟩:=rv.get (i:=i) (x:=ys.getD i V.zl) (by simp[hil]);have e3:its.getD i Value.none=u:=by simp[e1]
  show L2.RelV (ys.getD i V.zl) (its.getD i Value.none);rw[e3];exact e2
end
end L4
namespace L5
open PySem PySem.Spec L2 L3
open PyProof.Rows hiding St
section
variable {X:Cx}{K:PySem.W.Frag}{e:Expr}{es:List Expr}{tA:yK}{pos p pos2 p2:Pos}
def qu:w6:=λ ds S Q=>∃ d,∃ rows:List (List Int),ds=[d]/\yw d S=some (rows.map wY)/\rows.length<64/\(∀ r∈rows,r≠[])/\∀ l,S l=none->Q (.ref l) (ups S l (.lst ((L4.wA rows).map wY)))
noncomputable def pX:List T->Option T
 | [y]=>(wX y).bind λ ts=>(xH ts).bind λ rs=>if rs.length<64/\∀ r∈rs,r≠[] then some (.lst ((L4.wA rs).map yB)) else none
 | _=>none
theorem Z4:uD zS pX qu:=λ S Z ys z ds Q hz hv e hq=>by
 unfold pX at e;split at e
 .obtain⟨d,rfl,h1⟩:=ui hv;obtain⟨ts,e0,e⟩:=zOb e;obtain⟨rs,e1,e2⟩:=zOb e;split at e2
  .rename_i hc;cases e2;cases gs e1;obtain⟨es,h2,h3⟩:=h1.seq e0;cases pY.mp h3;exact⟨d,rs,rfl,h2,hc.1,hc.2,λ l hl=>hq _ _ (.new hl _) (rh hz hl (pY.mpr rfl))⟩
  .cases e2
 .cases e
theorem qu.mo:uC qu:=λ ds S Q Q' hq ⟨d,rows,h0,h1,h2,h3,h4⟩=>⟨d,rows,h0,h1,h2,h3,λ l hl=>hq _ _ (h4 l hl)⟩
abbrev br (K:PySem.W.Frag) (sq:Hp->Addr->List V->Prop):List V->Hp->VK->Prop:=λ xs H Q=>∃ p ys,∃ rows:List (List Int),xs=[.ref p]/\sq H p ys/\Paired (λ v r=>r≠[]/\∃ b,v=V.ref b/\ym K H b (r.map V.int)) ys rows/\rows.length<64/\
  ∀ (l:Addr) (idx:List Nat),H l=none->idx.Perm (List.range ys.length)->(idx.map λ i=>rows.getD i []).Pairwise (λ a b=>HT.lexLt b a=false)->Q (.ref l) (upd H l (.lst (idx.map λ i=>ys.getD i .zl)))
theorem y_.or {f:Value}{r r':List V->Hp->VK->Prop}(h:y_ X f r) (h':y_ X f r'):y_ X f (λ xs H Q=>r xs H Q\/r' xs H Q):=λ pins s σ H xs us Q I rv q=>
 q.elim (λ q=>h pins s σ H xs us Q I rv q) λ q=>h' pins s σ H xs us Q I rv q
theorem qu.fits:tW K qu (λ xs H Q=>br K (yf K) xs H Q\/br K (ym K) xs H Q):=λ xs ds H S Q h0 h2 h=>by
 obtain⟨d,rows,rfl,e,h64,hne,h⟩:=h;obtain⟨x,hx,h1⟩:=h0.one;subst hx;obtain⟨a,ys,rfl,g1,g2⟩:=yw.sq h1 h2 e;have hl:=g2.length;rw[List.length_map] at hl;have key:∀ (l:Addr) (idx:List Nat),H l=none->idx.Perm (List.range ys.length)->(idx.map λ i=>rows.getD i []).Pairwise (λ a b=>HT.lexLt b a=false)->Q (.ref l) (upd H l (.lst (idx.map λ i=>ys.getD i .zl))):=λ l idx hf hp hs=>by
  rw[<- hl] at hp;have heq:=L4.cI (aO hp) hs;have hx:Ext H (upd H l (.lst (idx.map λ i=>ys.getD i .zl))):=.new hf _;refine h l (h2.none hf) _ _ (by simp only[zk]) hx (h2.ups hx ⟨_,xa,?_⟩);rw[<- heq];exact zv.ext hx _ (g2.perm λ i hi=>by simpa using hp.mem_iff.mp hi)
 rcases g1 with g1 | g1
 .exact .inl ⟨_,ys,rows,rfl,g1,me g2 hne,h64,key⟩
 .exact .inr ⟨_,ys,rows,rfl,g1,me g2 hne,h64,key⟩
theorem bR (hm:X.mg "sorted"=none) (ha:wH X (e::es) tA) (hg:Gl X "sorted":=by rfl) (he:starEach (e::es) X.env=(false,eval e X.env)::starEach es X.env:=by rfl) (hpl:(backTo pos (starEach es X.env)).any (·.1)=false:=by rfl):PD X (.Call (.Name "sorted" p) (e::es) [] pos) (wy qu tA):=
 sg (rj (y_.or L4.OA L4.O7) hg hm boot_sorted ha.pa (by decide) (by decide) he hpl) qu.mo qu.fits ha.mo
end
end L5
namespace L2
open PySem PySem.Spec PyProof.Rows
section
variable {X:Cx}
def tp (r:Addr) (j:Int):Heap->Prop:=λ h=>∃ t u v,IsRange h r 0 j 1 t u v
theorem OG:y_ X (.type "range") (λ xs H Q=>∃ j,xs=[.int j]/\∀ r,H r=none->Q (.ref r) (upd H r (.ext (tp r j)))):=by
 intro pins s σ H xs us Q I r h;obtain⟨j,rfl,q⟩:=h;obtain⟨u,rfl,ru⟩:=vals1 r;obtain⟨t,rfl⟩:=ru;refine call_range_1 ⟨.ref s.heap.objs.size,_,I.laid (o:=.ext (tp s.heap.objs.size j)) (λ b o e=>zHp _ e) (Nat.le_refl _) ?_,rfl,q _ (I.zJ.fresh (Nat.le_refl _))⟩;have here:tp s.heap.objs.size j (s.heap.push { cls:=.type "range",data:=.fields #[.int 0 s.toks,.int j t,.int 1 (s.toks+1)] }):=⟨_,_,_,IsRange.new ..⟩
 refine⟨here,⟨_,Heap.get?_push_size _ rfl⟩,λ h1 h2 S k=>?_⟩;obtain⟨a,b,c,e⟩:=S;exact⟨a,b,c,k _ e⟩
theorem OK (hc:X.calm=true):y_ X (.type "list") (λ xs H Q=>∃ r j,xs=[.ref r]/\H r=some (.ext (tp r j))/\0<=j/\j<=16777216/\∀ l,H l=none->Q (.ref l) (upd H l (.lst ((List.range j.toNat).map λ(k:Nat)=>V.int (k:Int))))):=by
 intro pins s σ H xs us Q I r h;obtain⟨a,j,rfl,hr,h0,h1,q⟩:=h;obtain⟨u,rfl,ru⟩:=vals1 r;cases ru;obtain⟨⟨t,u,v,hR⟩,-,-⟩:=(show xM X.prog X.w H s.heap a (.ext (tp a j)) from I.zJ a _ hr)
 have hsz:Builtin.Range.rangeSize 0 j 1=((j.toNat:Nat):Int):=by rw[rangeSize_one];split <;> omega
 refine call_list_range (n:=j.toNat) (I.ok.hd hc) hR (small_one (by decide) (by decide) (by omega) (by omega)) hsz (by omega) λ h' tk acc c k e hi=>?_;refine⟨.ref s.heap.objs.size,_,I.laid (o:=.lst ((List.range j.toNat).map λ(k:Nat)=>V.int (k:Int))) k (Nat.le_refl _) ⟨?_,acc.toList,c,?_,by simpa using e⟩,rfl,q _ (I.zJ.fresh (Nat.le_refl _))⟩
 .have:sizeLine=16777216:=rfl;simp;omega
 .obtain⟨hn,hi⟩:=hi;refine ST.Paired.mk (by simp[hn]) λ i a b ha hb=>?_;rw[List.getElem?_map] at ha;obtain⟨k',hk,rfl⟩:=zOm ha;obtain⟨hk1,hk2⟩:=List.getElem?_eq_some_iff.mp hk;simp at hk2;subst hk2;obtain⟨w,hw⟩:=hi i b (by simpa using hb);subst hw;exact⟨w,by simp⟩
end
end L2
namespace L5
open PySem PySem.Spec L2 L3
open PyProof.Rows hiding St
section
variable {X:Cx}{K:PySem.W.Frag}{e:Expr}{tA:yK}{pos p pos2 p2:Pos}
def rE:w6:=λ ds S Q=>∃ j:Int,ds=[.int j]/\0<=j/\j<=16777216/\∀ l,S l=none->Q (.ref l) (ups S l (.lst (um 0 j.toNat)))
noncomputable def mI:List T->Option T
 | [.int j]=>if 0<=j/\j<=16777216 then some (.lst (rangeT 0 j.toNat)) else none
 | _=>none
theorem QV:uD zS mI rE:=λ S Z ys z ds Q hz hv e hq=>by
 unfold mI at e;split at e
 .obtain⟨d,rfl,h1⟩:=ui hv;split at e
  .rename_i hc;cases e;cases h1.int;exact⟨_,rfl,hc.1,hc.2,λ l hl=>hq _ _ (.new hl _) (rh hz hl (cL _ _))⟩
  .cases e
 .cases e
theorem rE.mo:uC rE:=λ ds S Q Q' hq ⟨j,h0,h1,h2,h3⟩=>⟨j,h0,h1,h2,λ l hl=>hq _ _ (h3 l hl)⟩
theorem VW {H:Hp}(n:Nat):zv K H (um 0 n) ((List.range n).map λ(k:Nat)=>V.int (k:Int)):=by
 unfold um
 induction List.range n with
 | nil=>exact .nil
 | cons k l ih=>exact .cons (by simp only[zk];rw[Int.zero_add]) ih
theorem rE.fits:tW K rE (λ xs H Q=>∃ j,xs=[.int j]/\∀ r,H r=none->∃ r' j',[V.ref r]=[.ref r']/\(upd H r (.ext (tp r j))) r'=some (.ext (tp r' j'))/\0<=j'/\j'<=16777216/\
  ∀ l,(upd H r (.ext (tp r j))) l=none->Q (.ref l) (upd (upd H r (.ext (tp r j))) l (.lst ((List.range j'.toNat).map λ(k:Nat)=>V.int (k:Int))))):=λ xs ds H S Q h0 h2 h=>by
 obtain⟨j,rfl,c1,c2,h⟩:=h;obtain⟨x,hx,h1⟩:=h0.one;subst hx;simp only[zk] at h1;subst h1;refine⟨j,rfl,λ r hr=>⟨r,j,rfl,xa,c1,c2,λ l hl=>?_⟩⟩;have x1:Ext H (upd H r (.ext (tp r j))):=.new hr _;have hlr:l≠r:=λ z=>by subst z;rw[xa] at hl;cases hl
 have hlH:H l=none:=by rw[xg hlr] at hl;exact hl
 have x2:Ext (upd H r (.ext (tp r j))) (upd (upd H r (.ext (tp r j))) l (.lst ((List.range j.toNat).map λ(k:Nat)=>V.int (k:Int)))):=.new hl _;exact h l (h2.none hlH) _ _ (by simp only[zk]) (x1.trans x2) ((h2.new hr).ups x2 ⟨_,xa,VW _⟩)
theorem T7 (hm:X.mg "list"=none) (hm2:X.mg "range"=none) (ha:wH X [e] tA) (hc:X.calm=true:=by rfl) (hg:Gl X "list":=by rfl) (hg2:Gl X "range":=by rfl)
  (he2:starEach [e] X.env=(false,eval e X.env)::starEach [] X.env:=by rfl)
  (he:starEach [.Call (.Name "range" p2) [e] [] pos2] X.env=(false,eval (.Call (.Name "range" p2) [e] [] pos2) X.env)::starEach [] X.env:=by rfl) (hpl:(backTo pos (starEach [] X.env)).any (·.1)=false:=by rfl) (hpl2:(backTo pos2 (starEach [] X.env)).any (·.1)=false:=by rfl):
  PD X (.Call (.Name "list" p) [.Call (.Name "range" p2) [e] [] pos2] [] pos) (wy rE tA):=by
 have h:=ot (p:=p) (OK hc) hg hm PyProof.Rows.boot_list (qY (ot OG hg2 hm2 boot_range ha.pa (by decide) (by decide) he2 hpl2) o6 he) (by decide) (by decide) he hpl;exact⟨wy.mo rE.mo ha.mo,PE.imp h λ _ _ _ hu=>c6 rE.mo rE.fits ha.mo hu⟩
end
end L5
namespace ST
open PySem PySem.SetTable PySem.Spec PyProof.Rows L2
theorem QG {us us':List Value}(p:us'.Perm us):∀ {ms:List Int},IntsAre us ms->∃ ms',IntsAre us' ms'/\ms'.Perm ms:=by
 induction p with
 | nil=>intro ms h;exact⟨ms,h,.refl _⟩
 | cons x _ ih=>
  intro ms h;cases h with
  | cons n t h=>
   obtain⟨ms',h1,h2⟩:=ih h;exact⟨n::ms',.cons n t h1,h2.cons n⟩
 | swap x y l=>
  intro ms h;cases h with
  | cons n t h=>
   cases h with
   | cons m u h=>exact⟨m::n::_,.cons m u (.cons n t h),.swap _ _ _⟩
 | trans _ _ ih1 ih2=>
  intro ms h;obtain⟨m1,h1,h2⟩:=ih2 h;obtain⟨m2,h3,h4⟩:=ih1 h1;exact⟨m2,h3,h4.trans h2⟩
theorem uB.at {prog:Program}{w:World}{h:Heap}{a:Addr}{xs:List (Int×Tok)}(S:uB prog w h a xs (uu w)):xo w a (xs.map λ e=>Value.int e.1 e.2) h:=by
 obtain⟨⟨es,ep,t,ho,he,T,h1,h2,h3⟩,_⟩:=S;have hm:7<=t.mask/\t.mask<=127:=by rcases T.mask with e | e | e <;> omega
 have hlen:es.size=xs.length:=by have:=congrArg List.length he;simpa using this
 exact⟨es,ep,t,⟨ho,fits_of (n:=xs.length) hlen T (by simp) (by omega),T.vt,h1,h2⟩,by rw[he,List.map_map];rfl⟩
theorem Zt:∀ xs:List (Int×Tok),IntsAre (xs.map λ e=>Value.int e.1 e.2) (xs.map (·.1))
 | []=>.nil
 | e::xs=>.cons e.1 e.2 (Zt xs)
theorem cp:∀ {us:List Value}{ns:List Int},IntsAre us ns->Vals (ns.map V.int) us
 | _,_,.nil=>.nil
 | _,_,.cons n t h=>.cons ⟨t,rfl⟩ (cp h)
section
variable {X:Cx}
theorem OC (hc:X.calm=true):y_ X (.type "set") (λ xs H Q=>∃ p,∃ ns:List Int,xs=[.ref p]/\yf X.K H p (ns.map V.int)/\ns.length<64/\
  ∀ (l:Addr) (us:List Value) (ms:List Int),H l=none->IntsAre us ms->ms.Nodup->(∀ n,n∈ms↔n∈ns)->Q (.ref l) (upd H l (.ext (xo X.w l us)))):=by
 intro pins s σ H xs us Q I r h;obtain⟨p,ns,rfl,hq,h64,q⟩:=h;obtain⟨u,rfl,ru⟩:=vals1 r;cases ru;obtain⟨its,rv,pl,hz⟩:=I.list hq;have hl:=rv.length;rw[List.length_map] at hl;have iA:IntsAre its ns:=intsAre_of rv;have nums:Nums its.toArray ns:=λ i v hv=>by
  have hv':its[i]?=some v:=by simpa using hv
  have hi:i<ns.length:=by rw[hl];exact (List.getElem?_eq_some_iff.mp hv').1
  obtain⟨u,e1,t,e2⟩:=rv.get (i:=i) (x:=V.int ns[i]) (by simp[hi]);rw[hv'] at e1;cases e1;exact⟨ns[i],t,e2,by simp[hi]⟩
 have hh:X.A.handled=none:=I.ok.hd hc;refine OD (A:=X.A) hh pl.isList nums (by rw[List.size_toArray];omega) λ h' tk xs S U k=>?_;have kk:∀ b o,s.heap.get? b=some o->h'.get? b=some o:=λ b o e=>k b o (Heap.lt_size e) e;have hSO:=S.at;refine⟨.ref s.heap.objs.size,_,I.laid (t':=tk) (o:=.ext (xo X.w s.heap.objs.size (xs.map λ e=>Value.int e.1 e.2))) kk (Nat.le_refl _) ?_,rfl,q _ _ (xs.map (·.1)) (I.zJ.fresh (Nat.le_refl _)) (Zt xs) S.nd λ n=>⟨λ hn=>?_,λ hn=>?_⟩⟩
 .obtain⟨es,ep,t,St,e⟩:=id hSO;exact⟨hSO,⟨_,St.get⟩,λ h1 h2 S1 k=>S1.ra k⟩
 .obtain⟨e,he,rfl⟩:=List.mem_map.mp hn;obtain⟨j,_,hj⟩:=U.own e he;exact List.mem_of_getElem? hj
 .obtain⟨j,hj⟩:=List.mem_iff_getElem?.mp hn;exact U.all j n (by have:=(List.getElem?_eq_some_iff.mp hj).1;rw[List.size_toArray];omega) hj
theorem O8 (hc:X.calm=true):y_ X (.builtin "sorted") (λ xs H Q=>∃ l us,∃ ms:List Int,xs=[.ref l]/\H l=some (.ext (xo X.w l us))/\IntsAre us ms/\ms.length<64/\
  ∀ (p:Addr) (ns:List Int),H p=none->ns.Perm ms->ns.Pairwise (·<=·)->Q (.ref p) (upd H p (.lst (ns.map V.int)))):=by
 intro pins s σ H xs us0 Q I r h;obtain⟨l,us,ms,rfl,hl,hm,h64,q⟩:=h;obtain⟨u,rfl,ru⟩:=vals1 r;cases ru;obtain⟨⟨es,ep,t,S,eu⟩,-,-⟩:=(show xM X.prog X.w H s.heap l (.ext (xo X.w l us)) from I.zJ l _ hl)
 have hlen:es.size=us.length:=by rw[<- eu];simp
 have hml:=hm.length;have hh:X.A.handled=none:=I.ok.hd hc;have hp:((comes X.w l es ep).toList.map (·.2)).Perm us:=by rw[<- eu];exact (oU X.w l es ep).map _
 obtain⟨ms',i1,i2⟩:=QG hp hm;have hcl:=hp.length_eq;have hl24:sizeLine=16777216:=rfl;refine cH (Out:=λ out=>∃ ns',IntsAre out.toList ns'/\ns'.Perm ms'/\ns'.Pairwise (·<=·)) hh S (by rw[hlen,hml];omega) (λ s6 h2 k=>L4.Ot i1 (by rw[hcl,<- hlen];exact h2) (by rw[hcl,hml];exact h64)) (λ h1=>⟨ms',by simpa using i1,.refl _,?_⟩) λ out h' tk p ho hs hp' k hat=>?_
 .have:ms'.length<2:=by rw[<- i1.length,hcl,<- hlen];exact h1
  match ms',this with
  | [],_=>exact .nil
  | [_],_=>exact List.pairwise_singleton _ _
 .obtain⟨ns,g1,g2,g3⟩:=ho;obtain⟨e,he⟩:=hat;refine⟨.ref p,_,I.laid (t':=tk) (o:=.lst (ns.map V.int)) k hp' ?_,rfl,q p ns (I.zJ.fresh hp') (g2.trans i2) g3⟩;exact⟨by rw[List.length_map,g2.length_eq,i2.length_eq];omega,out.toList,e,cp g1,by simpa using he⟩
end
end ST
namespace L5
open PySem PySem.Spec L2 L3
open PyProof.Rows hiding St
noncomputable def insI (n:Int):List Int->List Int
 | []=>[n]
 | m::l=>if n<m then n::m::l else if n=m then m::l else m::insI n l
noncomputable def vn:List Int->List Int
 | []=>[]
 | n::ns=>insI n (vn ns)
theorem gT {n k:Int}:∀ {l:List Int},k∈insI n l↔k=n\/k∈l
 | []=>by simp[insI]
 | m::l=>by
  unfold insI;split
  .simp
  .split
   .rename_i h;subst h;simp
   .rw[List.mem_cons,gT,List.mem_cons];constructor
    .rintro (h | h | h)
     .exact .inr (.inl h)
     .exact .inl h
     .exact .inr (.inr h)
    .rintro (h | h | h)
     .exact .inr (.inl h)
     .exact .inl h
     .exact .inr (.inr h)
theorem kX {k:Int}:∀ {l:List Int},k∈vn l↔k∈l
 | []=>.rfl
 | n::l=>by unfold vn;rw[gT,kX,List.mem_cons]
theorem Zw {n:Int}:∀ {l:List Int},l.Pairwise (· < ·)->(insI n l).Pairwise (· < ·)
 | [],_=>List.pairwise_singleton _ _
 | m::l,h=>by
  have h':=List.pairwise_cons.mp h;unfold insI;split
  .rename_i c;refine List.pairwise_cons.mpr ⟨λ x hx=>?_,h⟩;rcases List.mem_cons.mp hx with e | e
   .rw[e];exact c
   .exact Int.lt_trans c (h'.1 x e)
  .split
   .exact h
   .rename_i c1 c2;refine List.pairwise_cons.mpr ⟨λ x hx=>?_,Zw h'.2⟩;rcases gT.mp hx with e | e
    .rw[e];omega
    .exact h'.1 x e
theorem cy:∀ l:List Int,(vn l).Pairwise (· < ·)
 | []=>.nil
 | n::l=>Zw (cy l)
theorem W6 {l m:List Int}(h1:l.Nodup) (h2:l.Pairwise (·<=·)) (h3:m.Pairwise (· < ·)) (h:∀ k,k∈l↔k∈m):l=m:=by
 have nm:m.Nodup:=h3.imp λ h e=>by omega
 refine L4.gE (r:=λ a b:Int=>a<=b) (λ a b p q=>by omega) ((List.perm_ext_iff_of_nodup h1 nm).mpr h) h2 (h3.imp λ h=>by omega)
section
variable {X:Cx}{K:PySem.W.Frag}{e:Expr}{tA:yK}{pos pos2 p p2:Pos}
def mW:w6:=λ ds S Q=>tN ds S Q\/∃ d,∃ ns:List Int,ds=[d]/\(∀ ts,d≠.tup ts)/\yw d S=some (ns.map D.int)/\ns.length<64/\∀ l,S l=none->Q (.ref l) (ups S l (.lst ((vn ns).map D.int)))
noncomputable def qO:List T->Option T
 | [.lst ts]=>match uN ts with
  | some ns=>if ns.length<64 then some (.lst ((vn ns).map T.int)) else none
  | none=>kj [.lst ts]
 | _=>none
theorem Z2:uD zS qO mW:=λ S Z ys z ds Q hz hv e hq=>by
 unfold qO at e;split at e
 .split at e
  .rename_i ns hns;split at e
   .rename_i hc;cases e;cases mO hns;obtain⟨d,rfl,h1⟩:=ui hv;obtain⟨es,h2,h3⟩:=h1.seq rfl;cases rg.mp h3;refine .inr ⟨d,ns,rfl,?_,h2,hc,λ l hl=>hq _ _ (.new hl _) (rh hz hl (rg.mpr rfl))⟩;obtain⟨_,q | ⟨a,q,_⟩,_⟩:=h1.lst <;> subst q <;> exact λ _=>nofun
   .cases e
  .exact .inl (QT S Z _ z ds Q hz hv e hq)
 .cases e
theorem mW.mo:uC mW:=λ ds S Q Q' hq h=>by
 rcases h with h | ⟨d,ns,h1,h2,h3,h4,h5⟩
 .exact .inl (tN.mo ds S Q Q' hq h)
 .exact .inr ⟨d,ns,h1,h2,h3,h4,λ l hl=>hq _ _ (h5 l hl)⟩
theorem Pj {w:World}{xs:List V}{H:Hp}{S:SS}{Q:VK}{d:D}{ns:List Int}(h0:zv K H [d] xs) (h2:z_ K H S) (hn:∀ ts,d≠.tup ts) (e:yw d S=some (ns.map D.int)) (h64:ns.length<64) (h:∀ l,S l=none->vm K H Q (.ref l) (ups S l (.lst ((vn ns).map D.int)))):
  ∃ p,∃ ns':List Int,xs=[.ref p]/\yf K H p (ns'.map V.int)/\ns'.length<64/\
   ∀ (l:Addr) (us:List Value) (ms:List Int),H l=none->IntsAre us ms->ms.Nodup->(∀ n,n∈ms↔n∈ns')->
    ∃ l' us',∃ ms':List Int,[V.ref l]=[.ref l']/\(upd H l (.ext (ST.xo w l us))) l'=some (.ext (ST.xo w l' us'))/\IntsAre us' ms'/\ms'.length<64/\
     ∀ (p:Addr) (ns:List Int),(upd H l (.ext (ST.xo w l us))) p=none->ns.Perm ms'->ns.Pairwise (·<=·)->Q (.ref p) (upd (upd H l (.ext (ST.xo w l us))) p (.lst (ns.map V.int))):=by
 obtain⟨x,hx,h1⟩:=h0.one;subst hx;obtain⟨a,ys,rfl,g1,g2⟩:=qa h1 h2 e hn;rw[g2.ints] at g1;refine⟨a,ns,rfl,g1,h64,λ l us ms hf hi nd hmem=>⟨l,us,ms,rfl,xa,hi,?_,λ p ns2 hp pm srt=>?_⟩⟩
 .have:=ST.gP ms ns nd λ x hx=>(hmem x).mp hx;omega
 .have x1:Ext H (upd H l (.ext (ST.xo w l us))):=.new hf _;have hpl:p≠l:=λ z=>by subst z;rw[xa] at hp;cases hp
  have hpH:H p=none:=by rw[xg hpl] at hp;exact hp
  have x2:Ext (upd H l (.ext (ST.xo w l us))) (upd (upd H l (.ext (ST.xo w l us))) p (.lst (ns2.map V.int))):=.new hp _;have heq:ns2=vn ns:=W6 (pm.nodup_iff.mpr nd) srt (cy ns) λ k=>by rw[pm.mem_iff,hmem,kX]
  refine h p (h2.none hpH) _ _ (by simp only[zk]) (x1.trans x2) ((h2.new hf).ups x2 ⟨_,xa,?_⟩);rw[<- heq];exact zv.gM ns2
theorem bQ {k:Nat}(hr:yS k X.A) (hm:X.mg "sorted"=none) (hm2:X.mg "set"=none) (ha:wH X [e] tA) (hc:X.calm=true:=by rfl) (hg:Gl X "sorted":=by rfl) (hg2:Gl X "set":=by rfl)
  (he2:starEach [e] X.env=(false,eval e X.env)::starEach [] X.env:=by rfl)
  (he:starEach [.Call (.Name "set" p2) [e] [] pos2] X.env=(false,eval (.Call (.Name "set" p2) [e] [] pos2) X.env)::starEach [] X.env:=by rfl) (hpl:(backTo pos (starEach [] X.env)).any (·.1)=false:=by rfl) (hpl2:(backTo pos2 (starEach [] X.env)).any (·.1)=false:=by rfl):
  PD X (.Call (.Name "sorted" p) [.Call (.Name "set" p2) [e] [] pos2] [] pos) (wy mW tA):=by
 have h:=rj (p:=p) (y_.or (ST.O9 hc) (ST.O8 hc)) hg hm boot_sorted (qY (ot (y_.or (ST.OB hc hr.units) (ST.OC hc)) hg2 hm2 PyProof.Rows.boot_set ha.pa (by decide) (by decide) he2 hpl2) o6 he) (by decide) (by decide) he hpl;refine⟨wy.mo mW.mo ha.mo,PE.imp h fun σ H Q hu=>?_⟩;obtain⟨δ,S,r1,r2,z⟩:=hu;refine vA.go ha.mo r1 r2 z λ ds S1 xs H1 h1 q1 e1 p1=>?_;rcases h1 with h1 | ⟨d,ns,rfl,c1,c2,c3,h1⟩
 .obtain⟨p,ys,rows,a1,a2,a3,a4,a5⟩:=tN.fits (w:=X.w) xs ds H1 S1 Q q1 p1 (tN.mo ds S1 _ _ (λ d S' z=>z.ext e1) h1);exact .inl ⟨p,ys,rows,a1,a2,a3,a4,λ l us vs rs b1 b2 b3=>.inl (a5 l us vs rs b1 b2 b3)⟩
 .obtain⟨p,ns',a1,a2,a3,a4⟩:=Pj (w:=X.w) q1 p1 c1 c2 c3 (λ l hl=>(h1 l hl).ext e1);exact .inr ⟨p,ns',a1,a2,a3,λ l us ms b1 b2 b3 b4=>.inr (a4 l us ms b1 b2 b3 b4)⟩
end
end L5
namespace HT
open PySem PyProof.Rows
section
variable {prog:Program}{w:World}{A:Around}{E:Value->Shared->Prop}{s:Shared}
end
end HT
namespace L2
open PySem PySem.Spec PyProof.Rows
section
variable {X:Cx}{e st:Expr}{te:TE}{pos p2:Pos}
end
end L2
namespace L5
open PySem PySem.Spec L2 L3
open PyProof.Rows hiding St
section
variable {X:Cx}{K:PySem.W.Frag}{e st:Expr}{te:zH}{pos p2 p3 p4:Pos}
noncomputable def aD:Sm:=λ _=>none
def Yl:xx:=λ _ _ _=>False
theorem Tv {st:Stmt}:ud X st Yl:=⟨λ _ _ _ _ _ h=>h.elim,λ _ _ _ _ _ _ ⟨_,_,_,_,h⟩=>h.elim⟩
theorem S8 {R:Rk}:xy R aD Yl:=λ S0 Z0 S Z δ ρ o E F e P=>by cases e
end
end L5
namespace L5
open PySem L2 L3
theorem Z5:Good2 zS pj jo:=mT (λ _ _ _=>vq) λ _ _ _=>nofun
end L5
namespace L5
open PySem PySem.Spec L2 L3
open PyProof.Rows hiding St
section
variable {X:Cx}{e:Expr}{te:zH}{pos p q:Pos}
theorem T8 (T:Bt X.mg) (he:PD X e te) (hg:Gl X "isinstance":=by rfl) (hg2:Gl X "list":=by rfl) (h1:starEach (e::[.Name "list" q]) X.env=(false,eval e X.env)::starEach [.Name "list" q] X.env:=by rfl) (h2:(backTo pos (starEach [.Name "list" q] X.env)).any (·.1)=false:=by rfl) (h3:starEach [.Name "list" q] X.env=(false,eval (.Name "list" q) X.env)::starEach [] X.env:=by rfl):
  PD X (.Call (.Name "isinstance" p) [e,.Name "list" q] [] pos) (oS "list" te):=kJ (by simp) T.isinstance T.list PyProof.Rows.boot_list hg2 (by decide) (by decide) he hg h1 h2 h3
end
end L5
namespace L3
open PySem PyProof.Rows L2
section
variable {X:Cx}{pos:Pos}
noncomputable def wE (E:qJ) (W:Nat->yz->SS->Prop) (m:Nat):qJ:={ E with nx:=fun δ' S'=>∃ m',m'<m/\W m' δ' S',ct:=fun δ' S'=>∃ m',m'<m/\W m' δ' S',bk:=E.nx }
def ll (c:yZ) (tb:xx):xx:=λ E δ S=>∃ W:Nat->yz->SS->Prop,(∃ m,W m δ S)/\∀ m δ S,W m δ S->
 c δ S λ b S1=>if b=true then tb (wE E W m) δ S1 else E.nx δ S1
theorem ll.mo {c:yZ}{tb:xx}(hc:v8 c) (hb:sT tb):sT (ll c tb):=λ E E' δ S hE ⟨W,w0,ws⟩=>
 ⟨W,w0,λ m δ S hw=>hc δ S _ _ (λ b S1 z=>vH (λ z=>hb (wE E W m) (wE E' W m) δ S1 ⟨λ _ _ q=>q,hE.rt,hE.nx,λ _ _ q=>q⟩ z) (λ z=>hE.nx _ _ z) z) (ws m δ S hw)⟩
theorem kF {c:Expr}{body:List Stmt}{tc:yZ}{tb:xx}(hp:PassesOwn (model X.prog X.w) X.A X.env X.xe) (hc:wj X c tc) (hb:tq X body tb):ud X (.While c body [] pos) (ll tc tb):=by
 refine⟨ll.mo hc.mo hb.mo,PS.imp (Uw hp hc.pt hb.ps) λ D σ H hu=>?_⟩;obtain⟨δ,S,r1,r2,W,⟨m0,w0⟩,ws⟩:=hu;refine⟨λ m σ' H'=>Ext H H'/\∃ δ S,xp X.K H' δ σ'/\z_ X.K H' S/\W m δ S,⟨m0,.refl _,δ,S,r1,r2,w0⟩,?_⟩;rintro m σ2 H2 ⟨x2,δ2,S2,q1,q2,w2⟩;refine vg.go hc.mo q1 q2 (ws m δ2 S2 w2) λ k S3 H3 h3 e3 p3=>vH (λ z=>?_) (λ z=>?_) h3
 .refine⟨fun σ' H'=>Ext H H'/\∃ δ S m',m'<m/\xp X.K H' δ σ'/\z_ X.K H' S/\W m' δ S,fun σ' H' ⟨a,δ',S',m',b,c,d,e⟩=>⟨m',b,a,δ',S',c,d,e⟩,δ2,S3,q1.ext e3,p3,?_⟩;exact hb.mo (wE (sI X.K H D) W m) _ δ2 S3 ⟨fun δ5 S5 ⟨m',b,w5⟩ σ5 H5 b1 b2 b3=>⟨(x2.trans e3).trans b2,δ5,S5,m',b,b1,b3,w5⟩,λ _ _ q=>vm.ext (x2.trans e3) q,λ _ _ q=>vK.ext (x2.trans e3) q,fun δ5 S5 ⟨m',b,w5⟩ σ5 H5 b1 b2 b3=>⟨(x2.trans e3).trans b2,δ5,S5,m',b,b1,b3,w5⟩⟩ z
 .exact z σ2 H3 (q1.ext e3) (x2.trans e3) p3
end
end L3
namespace L5
open PySem PyProof.Rows L2 L3
noncomputable def xI (is:List Nat) (c:Ev->Option Bool) (b:Sm):Nat->Ev->Option Out
 | 0,_=>none
 | n+1,ρ=>(c (yU is ρ)).bind λ k=>if k=true then (b (yU is ρ)).bind λ o=>match o with
   | .nx ρ2=>xI is c b n ρ2
   | .ct ρ2=>xI is c b n ρ2
   | .bk ρ2=>some (.nx (yU is ρ2))
   | .rt t=>some (.rt t)
  else some (.nx (yU is ρ))
noncomputable def sX (n:Nat) (is:List Nat) (c:Ev->Option Bool) (b:Sm):Sm:=xI is c b n
theorem kO {R:Rk} [Lo R] {n:Nat}{is:List Nat}{c:Ev->Option Bool}{tc:yZ}{b:Sm}{tb:xx}(hc:vM c tc) (hb:xy R b tb):xy R (sX n is c b) (ll tc tb):=λ S0 Z0 S Z δ ρ o E F e P=>by
 obtain⟨SB,b1,FB,b2⟩:=F.rebase;have lo:∀ S' d y,R SB S' Z0 y d->R S0 S' Z0 y d:=λ S' d y r=>Lo.lo b1 (λ _ z=>z) r;refine⟨λ m δ' S'=>∃ Z' ρ',FR SB Z0 S' Z' δ' ρ'/\xI is c b m ρ'=some o,⟨n,Z,ρ,FB,e⟩,λ m δ' S' ⟨Z',ρ',F',e'⟩=>?_⟩;cases m with
 | zero=>cases e'
 | succ m=>
  unfold xI at e';obtain⟨k,c1,e'⟩:=zOb e';have G:=F'.yU is;refine hc S' Z' δ' _ k _ G.er c1 λ S3 s3=>?_;cases k with
  | true=>
   rw[if_pos rfl] at e' ⊢;obtain⟨o1,g2,e'⟩:=zOb e';refine hb SB Z0 S3 Z' δ' _ o1 _ (G.grow s3) g2 ?_;cases o1 with
   | nx ρ2=>exact λ S3 Z3 δ3 F3=>⟨m,Nat.lt_succ_self m,Z3,ρ2,F3,e'⟩
   | ct ρ2=>exact λ S3 Z3 δ3 F3=>⟨m,Nat.lt_succ_self m,Z3,ρ2,F3,e'⟩
   | bk ρ2=>cases e';exact λ S3 Z3 δ3 F3=>P S3 Z3 δ3 ((F3.yU is).back b1 F.z0)
   | rt y=>cases e';exact λ d S3 s3 r3=>P d S3 (b1.trans s3) (lo _ _ _ r3)
  | false=>
   rw[if_neg (by decide)] at e' ⊢;cases e';exact P S3 Z' δ' ((G.grow s3).back b1 F.z0)
end L5
namespace ZP
open PySem PyProof.Rows
set_option maxRecDepth 100000
theorem RX (k:Bool) (l:Addr) (xs:Array Value):Meets (Builtin.«enumerate.__new__» ⟨[.type "enumerate",.ref l],[]⟩) (λ _ R s=>SQ s.heap k l xs/\
   R (.ok (.ret (.ref (s.heap.push (mM k l)).objs.size))) { s with heap:=(s.heap.push (mM k l)).push { cls:=.type "enumerate",data:=.fields #[.none,.bool false,.ref s.heap.objs.size,rawInt 0,.none,.none] } }):=
 .of_wp λ prog w A R s h=>by
  obtain⟨hp,g,d,tk,os⟩:=s;obtain⟨q,h⟩:=h;have hsub:=sub_enumerate;have hL:SQ (Shared.heap ⟨hp,g,d,tk,os⟩) k l xs:=q;obtain⟨⟨c,yy,dt,sl⟩,hl,hc⟩:=q.cls;replace hc:c=.type (cond k "tuple" "list"):=hc;subst hc
  wp_walk using AutoSeq1.wpAny_loadPart' hl
  refine wpAny_stack_any λ st=>wpAny_pure ?_;split
  .rename_i c _ _ _ _ _;cases (c == Value.type "enumerate")
   .wp_walk using AutoSeq1.wpAny_loadPart' hl,made hL
    exact⟨_,rfl,h⟩
   .wp_walk using AutoSeq1.wpAny_loadPart' hl,made hL
    exact⟨_,rfl,h⟩
  .wp_walk using AutoSeq1.wpAny_loadPart' hl,made hL
   exact⟨_,rfl,h⟩
section
variable {prog:Program}{w:World}{A:Around}{E:Value->Shared->Prop}{s:Shared}
theorem Py {k:Bool}{l:Addr}{xs:Array Value}{Q:Value->Shared->Prop}(hL:SQ s.heap k l xs)
  (h:∀ h',IsEnum h' (s.heap.objs.size+1) s.heap.objs.size 0 .none->SI h' k s.heap.objs.size l 0->(∀ b o,s.heap.get? b=some o->h'.get? b=some o)->Q (.ref (s.heap.objs.size+1)) { s with heap:=h' }):
  wpAny (model prog w) A (call (.type "enumerate") [.ref l]) Q E s:=by
 refine callType_new F.called_enumerate (by decide) (F.typeCall_enumerate_1 _) (F.newCall_enumerate_1 _) (λ obj=>F.args_object_init_2 obj _) F.entry_enumerate_new (RX k l xs) ⟨hL,?_⟩;have hz:(s.heap.push (mM k l)).objs.size=s.heap.objs.size+1:=Heap.size_push ..;show _/\_;rw[hz];have he:IsEnum ((s.heap.push (mM k l)).push { cls:=.type "enumerate",data:=.fields #[.none,.bool false,.ref s.heap.objs.size,rawInt 0,.none,.none] }) (s.heap.objs.size+1) s.heap.objs.size 0 .none:=by
  have:=Heap.get?_push_size (s.heap.push (mM k l)) (o:={ cls:=.type "enumerate",data:=.fields #[.none,.bool false,.ref s.heap.objs.size,rawInt 0,.none,.none] }) rfl;rw[hz] at this;exact this
 exact⟨⟨_,he,rfl⟩,h _ he ⟨_,zHp _ (Heap.get?_push_size _ rfl),rfl,rfl⟩ λ b o x=>zHp _ (zHp _ x)⟩
theorem PL (hh:A.handled=none) (k:Bool) (it l:Addr) (hne:l≠it) (xs:Array Value):Draws prog w A it [it,l] xs.size (λ i v=>xs[i]?=some v) (λ i h=>SI h k it l i/\SQ h k l xs) where
 live:=λ _ _ st=>let ⟨o,ho,_⟩:=st.1;⟨o,ho⟩
 frame:=λ _ _ _ st hk=>⟨st.1.on λ o e=>hk it (by simp) o e,st.2.on λ o e=>hk l (by simp) o e⟩
 item:=λ i s Q E hi st hQ=>draw st.1 st.2 (x:=xs[i]) (by simp[hi]) λ h' hit' hs'=>hQ _ h' s.toks (by simp[hi]) ⟨hit',st.2.on λ o e=>(hs'.2 l hne).trans e⟩ hs'
 done:=λ s Q E st hE=>ZX hh st.1 st.2 (by simp) hE
end
end ZP
namespace L2
open PySem PySem.Spec PyProof.Rows ZP
section
variable {X:Cx}{pins:List (Addr×Obj)}{σ:St}{H:Hp}{s:Shared}
def Xd (K:PySem.W.Frag) (k:Bool) (a:Addr):It:=
 ⟨λ i H=>∃ xs x,sQ K H k a xs/\xs[i]?=some x,
   λ i H v H'=>∃ p x,v=.ref p/\H p=none/\H'=upd H p (.tup [.int i,x])/\∀ xs,sQ K H k a xs->xs[i]?=some x,
   λ i H=>∃ xs,sQ K H k a xs/\xs.length<=i⟩
theorem WJ {P:Program}{w:World}{K:PySem.W.Frag}{es:List Expr}{kk} {pos:Pos}{k:Bool}{e it a:Addr}(hei:e≠it) (hea:e≠a) (hai:a≠it):
  Turn P w K (.Tuple es kk pos) (Xd K k a) [e,it] e (λ i h=>(∃ old,IsEnum h e it i old)/\SI h k it a i) where
 mem:=by simp
 obj:=λ i h st b hb=>by
  obtain⟨⟨old,q1⟩,o1,q2,_,d1⟩:=st;simp only[List.mem_cons,List.not_mem_nil,or_false] at hb;rcases hb with e | e <;> subst e
  .exact⟨_,q1,λ v z=>by cases z⟩
  .exact⟨_,q2,λ v z=>by rw[d1] at z;cases z⟩
 keep:=λ i h h' st k=>⟨let ⟨old,q⟩:=st.1;⟨old,k e (by simp) _ q⟩,st.2.on λ o q=>k it (by simp) o q⟩
 item:=by
  intro X hP hw hK hc i pins s σ H E I hf st hg;subst hP hw hK;obtain⟨xs,x,g1,hx⟩:=hg;obtain⟨its,rv,q1⟩:=g1.of I;obtain⟨u1,e1,r1⟩:=rv.get hx;obtain⟨⟨old,he⟩,si⟩:=st;have hlt:i<its.toArray.size:=by have:=(List.getElem?_eq_some_iff.mp e1).1;simpa using this
  have D:=PL (prog:=X.prog) (w:=X.w) (A:=X.A.in1) (show X.A.in1.handled=none from I.ok.hd hc) k it a hai its.toArray;refine wpAny_pyNext_enum_itemD D he ⟨si,q1⟩ hlt hei (by simp[hei,hea]) λ u h' tk hP ho hs' hT hsz hk=>⟨_,rfl,?_⟩;have hu:u=u1:=by simp only[List.getElem?_toArray,e1] at hP;exact (Option.some.inj hP).symm
  subst hu;have nT:s.heap.objs.size∉[e,it]:=λ hb=>by
   simp only[List.mem_cons,List.not_mem_nil,or_false] at hb;obtain⟨oi,qi,_⟩:=si;rcases hb with z | z
   .exact absurd (Heap.lt_size he) (by rw[<- z];exact Nat.lt_irrefl _)
   .exact absurd (Heap.lt_size qi) (by rw[<- z];exact Nat.lt_irrefl _)
  have ne:s.heap.objs.size≠e:=λ z=>nT (by simp[z]);refine wpAny_letOwnedTupleGo_enum ho λ h2 he2 sb=>?_;have fr:H s.heap.objs.size=none:=I.zJ.fresh (Nat.le_refl _);have I1:Inv X pins σ (upd H s.heap.objs.size (.tup [.int i,x])) { s with heap:=s.heap.push { cls:=.type "tuple",data:=.seq [.int i tk,u].toArray },toks:=s.toks }:=
   I.laid (o:=.tup [.int i,x]) (λ b u q=>zHp _ q) (Nat.le_refl _) ⟨by show 2<=sizeLine;decide,[.int i tk,u],.cons ⟨tk,rfl⟩ (.cons r1 .nil),IsTup.new _ _⟩
  have hf':∀ b∈[e,it],upd H s.heap.objs.size (.tup [.int i,x]) b=none:=λ b hb=>by
   rw[xg (λ z=>nT (by rw[<- z];exact hb))];exact (hf b hb).1
  have kk:∀ b o,b∉[e,it]->(s.heap.push { cls:=.type "tuple",data:=.seq [.int i tk,u].toArray }).get? b=some o->h2.get? b=some o:=λ b o hb q=>by
   have hbe:b≠e:=λ z=>hb (by simp[z]);have hbi:b≠it:=λ z=>hb (by simp[z]);by_cases hbs:b=s.heap.objs.size
   .subst hbs;rw[Heap.get?_push_size _ rfl] at q;cases q;exact sb.extBut _ _ hbe hT
   .have q':s.heap.get? b=some o:=by rw[Heap.get?_push_ne _ _ _ hbs] at q;exact q
    exact sb.extBut _ _ hbe (hk b o hbe hbi q')
  have I2:=Inv.c9 (h':=h2) (t':=tk+1) (fp:=[e,it]) I1 kk λ b hb=>⟨hf' b hb,(hf b hb).2⟩;refine⟨.ref s.heap.objs.size,_,I2,rfl,⟨_,x,rfl,fr,rfl,λ zs hz=>by rw[hz.inj I g1];exact hx⟩,⟨⟨_,by simpa using he2⟩,hs'.1.on λ o q=>(sb.2 it (Ne.symm hei)).trans q⟩,hf'⟩
 done:=by
  intro X hP hw hK hc i pins s σ H E I hf st hg;subst hP hw hK;obtain⟨xs,g1,hx⟩:=hg;obtain⟨its,rv,q1⟩:=g1.of I;have l1:=rv.length;obtain⟨⟨old,he⟩,si⟩:=st;have hT:s.TypeIs (.ref e) "enumerate":=⟨_,he,rfl⟩
  unfold pyNext;refine zWb (wpAny_attempt (wpAny_callSpecial?_slot (name:=Str.ofString "__next__") hT F.slot_enumerate_next
   (wpAny_call_entry F.slot_enumerate_next hT F.entry_enumerate_next ?_ (F.args_enumerate_next_1 _))))
  show wpAny _ _ (field (.ref e) 2 >>= _) _ _ _;refine zWb (wpAny_field he rfl (x:=.ref it) rfl ?_);refine zWb (ZX (show X.A.in1.handled=none from I.ok.hd hc) si q1 (by simp;omega) λ h' x he' hx'=>?_);obtain⟨o,ho,hc⟩:=hx';refine zWb (wpAny_isInstance (T:="StopIteration") (b:=true) ⟨o,ho,hc⟩ isSubtype_stop ?_);exact wpAny_pure ⟨rfl,I.c9 (t':=s.toks) (fp:=[e,it]) (λ b o hb q=>he' b o (λ z=>hb (by simp[z])) q) hf⟩
 self:=λ _ _ _ _ _ st h=>let ⟨_,q⟩:=st.1;wpAny_pyIter_enum q h
def QK (K:PySem.W.Frag) (ta:TA):TI:=fun σ H R=>ta σ H λ vs H1=>∃ a k,vs=[.ref a]/\(∃ xs,sQ K H1 k a xs)/\R (Xd K k a) H1
theorem UG {a:Expr}{ta:TA}{p pos pos':Pos}{es:List Expr}{kk} (hg:Gl X "enumerate") (hm:X.mg "enumerate"=none) (ha:PA X [a] ta) (hs:starEach [a] X.env=[(false,eval a X.env)]:=by rfl):
  PI X (.Tuple es kk pos') (.Call (.Name "enumerate" p) [a] [] pos) (QK X.K ta):=by
 intro pins s σ H R I h;refine Call_ (mK I hg hm boot_enumerate (PyProof.Rows.callWith_type1 (zQ (ha pos pins s σ H _ I h) λ us s1 ⟨vs,H1,I1,r1,q1⟩=>?_) (by rw[hs];rfl) rfl));obtain⟨a1,k,rfl,⟨xs,g1⟩,q⟩:=q1;cases r1 with
 | cons r rr=>
  cases rr;cases r;obtain⟨it1,_,q1⟩:=g1.of I1;have la:=q1.lt;refine ZP.Py q1 λ h' E S up=>wpAny_pyIter_enum E ?_;have nw:∀ b∈[s1.heap.objs.size+1,s1.heap.objs.size],s1.heap.objs.size<=b:=λ b hb=>by
   simp only[List.mem_cons,List.not_mem_nil,or_false] at hb;rcases hb with z | z <;> rw[z]
   .exact Nat.le_succ _
   .exact Nat.le_refl _
  exact⟨_,[s1.heap.objs.size+1,s1.heap.objs.size],_,_,H1,rfl,I1.kept (t':=s1.toks) up,WJ (Nat.succ_ne_self _) (Nat.ne_of_gt (Nat.lt_succ_of_lt la)) (Nat.ne_of_lt la),⟨⟨_,E⟩,S⟩,λ b hb=>I1.fO (nw b hb) (I1.zJ.fresh (nw b hb)),q⟩
end
end L2
namespace L5
open PySem PySem.Spec L2 L3
open PyProof.Rows hiding St
noncomputable def sH (k:Nat):List D->List D
 | []=>[]
 | d::ds=>.tup [.int k,d]::sH (k+1) ds
noncomputable def qx (k:Nat):List T->List T
 | []=>[]
 | d::ds=>.tup [.int k,d]::qx (k+1) ds
theorem ZU:∀ (ds:List D) (k i:Nat),(sH k ds)[i]?=(ds[i]?).map λ d=>D.tup [.int ((k+i:Nat):Int),d]
 | [],k,i=>by simp[sH]
 | d::ds,k,0=>by simp[sH]
 | d::ds,k,i+1=>by
  unfold sH;rw[List.getElem?_cons_succ,List.getElem?_cons_succ,ZU ds (k+1) i,show k+1+i=k+(i+1) from by omega]
theorem ZT:∀ (ds:List D) (k:Nat),(sH k ds).length=ds.length
 | [],k=>rfl
 | d::ds,k=>by unfold sH;rw[List.length_cons,ZT ds];rfl
theorem cM {S:SS}:∀ {ts:List T}{ds:List D}(k:Nat),zu S ts ds->zu S (qx k ts) (sH k ds)
 | [],ds,k,h=>by simp only[zu] at h;subst h;exact zu.nil
 | t::ts,ds,k,h=>by
  simp only[zu] at h;obtain⟨c,cs,rfl,h1,h2⟩:=h;exact zu.cons (pZ (zu.cons (by simp only[Sn]) (zu.cons h1 zu.nil))) (cM (k+1) h2)
section
variable {X:Cx}{K:PySem.W.Frag}{a:Expr}{tA:yK}{pos p pos':Pos}{es:List Expr}{kk:Nat}
def Zg (t:yK):vL:=fun δ S R=>t δ S λ ds S1=>∃ d xs,ds=[d]/\yw d S1=some xs/\R ⟨sH 0 xs,λ S=>yw d S=some xs⟩ S1
theorem bP (hm:X.mg "enumerate"=none) (ha:wH X [a] tA) (hg:Gl X "enumerate":=by rfl) (hs:starEach [a] X.env=[(false,eval a X.env)]:=by rfl):
  pP X (.Tuple es kk pos') (.Call (.Name "enumerate" p) [a] [] pos) (Zg tA):=by
 refine⟨fun δ S Q Q' hq z=>ha.mo δ S _ _ (λ ds S1 ⟨d,xs,h1,h2,h4⟩=>⟨d,xs,h1,h2,hq _ _ h4⟩) z,PI.imp (UG hg hm ha.pa hs) fun σ H R hu=>?_⟩;obtain⟨δ,S,r1,r2,z⟩:=hu;refine vA.go ha.mo r1 r2 z λ ds S1 vs H1 h1 q1 e1 p1=>?_;obtain⟨d,xs,rfl,s1,h⟩:=h1;obtain⟨v,rfl,d1⟩:=q1.one;obtain⟨a1,us,rfl,g1,g2⟩:=yw.k d1 p1 s1;refine⟨a1,fu d,rfl,⟨us,g1⟩,h _ H1 e1 p1 λ i H2 S2 x1 x2 hk=>?_⟩;obtain⟨b1,us2,q1,m1,m2⟩:=yw.k (zk.ext x1 d d1) x2 hk;cases q1;have l1:=m2.length;refine⟨λ dd hd=>?_,λ hl=>⟨us2,m1,?_⟩⟩
 .rw[ZU,Nat.zero_add] at hd;obtain⟨dx,hx,rfl⟩:=zOm hd;obtain⟨x,hx',rx⟩:=m2.get hx;refine⟨⟨us2,x,m1,hx'⟩,λ v H' q=>?_⟩;obtain⟨pp,x',rfl,hp,rfl,f1⟩:=q;have ex:x'=x:=by have:=f1 _ m1;rw[hx'] at this;exact (Option.some.inj this).symm
  subst ex;refine⟨.new hp _,x2.new hp,?_⟩;simp only[zk];exact⟨pp,_,rfl,ym.of xa,zv.ext (.new hp _) _ (.cons (by simp only[zk]) (.cons rx .nil))⟩
 .have hl':(sH 0 xs).length<=i:=hl;rw[ZT] at hl';omega
@[simp] noncomputable def qy:List T->Option (List T)
 | [x]=>(wX x).map λ xs=>qx 0 xs
 | _=>none
theorem aw {g:Ev->Option (List T)}(h:nk g tA):ni false (uw qy g) (Zg tA):=λ S Z δ ρ ts Q hE e hq=>by
 obtain⟨ys,e1,e2⟩:=zOb e;refine h S Z δ ρ ys _ hE e1 λ ds S1 s1 r1=>?_;unfold qy at e2;split at e2
 .obtain⟨xs,e3,rfl⟩:=zOm e2;obtain⟨d,rfl,h1⟩:=ui r1;obtain⟨es,g1,g2⟩:=h1.seq e3;exact⟨d,es,rfl,g1,hq _ S1 s1 (cM 0 g2) λ S'' s=>yw.sx g1 s⟩
 .cases e2
end
end L5
namespace TM
open PySem PyProof.Rows
set_option maxRecDepth 100000
theorem Ob (i:Int) (t:Tok) (l:Addr) (items:Array Value) (n:Nat) (dd:Option Addr) (sl:Array (Option Value)):
  Meets (Builtin.«int.__rmul__» ⟨[.int i t,.ref l],[]⟩) (λ _ R s=>s.heap.get? l=some { cls:=.type "list",dict:=dd,data:=.seq items n,slots:=sl }/\R (.ok (.ret Value.notImplemented)) s):=
 .of_wp λ prog w A R s h=>by
  obtain⟨hp,g,d,tk,os⟩:=s;obtain⟨hl,h⟩:=h
  wp_walk
  exact⟨_,rfl,h⟩
theorem mulL (l:Addr) (items:Array Value) (n:Nat) (x:Int) (u:Tok) (dd:Option Addr) (sl:Array (Option Value)) (hc0:¬(!Builtin.List.listFitsIndex x)=true) (hc1:¬items.size*x.toNat>(2 ^ 63-1)/8) (hc2:¬Builtin.List.listTooLong (items.size*x.toNat)=true):
  Meets (Builtin.«list.__mul__» ⟨[.ref l,.int x u],[]⟩) (λ _ R s=>s.heap.get? l=some { cls:=.type "list",dict:=dd,data:=.seq items n,slots:=sl }/\R (.ok (.ret (Value.ref s.heap.objs.size))) { s with heap:=s.heap.push { cls:=.type "list",data:=.seq (List.foldl (λ x1 x2=>x1++x2) #[] (List.replicate (if items.isEmpty=true then 0 else x.toNat) items)) } }):=
 .of_wp λ prog w A R s h=>by
  obtain⟨hp,g,d,tk,os⟩:=s;obtain⟨hl,h⟩:=h;have hsz:=AutoListH.joined_fits hc2
  wp_walk;refine wpAny_ite_false (decide_eq_false (Nat.not_lt.mpr hsz)) ?_;wp_walk;exact⟨_,rfl,h⟩
section
variable {prog:Program}{w:World}{A:Around}{E:Value->Shared->Prop}{s:Shared}
theorem WN {l:Addr}{its:List Value}{k:Int}{t:Tok}{Q:Value->Shared->Prop}(ht:PlainL s.heap l its.toArray) (hne:its≠[]) (h0:0<=k) (hz:its.length*k.toNat<=sizeLine)  (hk:k<=1000000)
  (more:Q (.ref s.heap.objs.size) { s with heap:=s.heap.push { cls:=.type "list",data:=.seq (List.replicate k.toNat its).flatten.toArray } }):
  wpAny (model prog w) A (binaryOp .Mult (.ref l) (.int k t)) Q E s:=by
 obtain⟨⟨cls,dd,data,sl⟩,n,ho,hc,he,hd⟩:=id ht;simp only at hc hd he;subst hc hd he;have hl:sizeLine=16777216:=rfl;have hem:its.toArray.isEmpty=false:=by cases its with
  | nil=>exact absurd rfl hne
  | cons a r=>rfl
 have hf:List.foldl (λ x1 x2=>x1++x2) #[] (List.replicate (if its.toArray.isEmpty=true then 0 else k.toNat) its.toArray)=(List.replicate k.toNat its).flatten.toArray:=by
  rw[hem,if_neg (by decide)];have:=fP its k.toNat #[];simpa using this
 refine wpAny_binaryOp_repeat_ref (T:="list") (U:="int") (by decide) ⟨_,ho,rfl⟩ (λ s'=>typeIs_int s' k t) noFill_list_mul F.fills_int_mul F.slot_int_rmul repeat_list F.slot_int_index.lookup
  (call_meets F.slot_int_rmul (typeIs_int s k t) F.entry_int_rmul (F.args_int_rmul_2 _ _) (Ob k t l its.toArray n none sl)
   ⟨ho,rfl,⟨_,ho,rfl⟩,call_meets F.slot_list_mul ⟨_,ho,rfl⟩ F.entry_list_mul (F.args_list_mul_2 _ _)
    (mulL l its.toArray n k t none sl (by simp[Builtin.List.listFitsIndex];omega) (by simp;omega) (by simp[Builtin.List.listTooLong];omega)) ⟨ho,?_⟩⟩)
 rw[hf];exact more
end
end TM
namespace L2
open PySem PySem.Spec PyProof.Rows
def g8 (K:PySem.W.Frag):R2:=λ x y H Q=>∃ a k xs,x=.ref a/\y=.int k/\yf K H a xs/\xs≠[]/\0<=k/\k<=1000000/\xs.length*k.toNat<=sizeLine/\∀ p,H p=none->Q (.ref p) (upd H p (.lst (List.replicate k.toNat xs).flatten))
theorem Sb {X:Cx}:y4 X (binaryOp .Mult) (g8 X.K):=by
 intro pins s σ H x y v u Q I rx ry h;obtain⟨a,k,xs,rfl,rfl,hx,hne,h1,h2,hz,q⟩:=h;cases rx;obtain⟨t,rfl⟩:=ry;obtain⟨its,r,ht,_⟩:=I.list hx;have hl:=r.length;refine TM.WN ht (λ z=>hne (r.mE.mp z)) h1 (by rw[<- hl];exact hz) h2 ?_;have hlen:(List.replicate k.toNat xs).flatten.length<=sizeLine:=by
  have:(List.replicate k.toNat xs).flatten.length=k.toNat*xs.length:=by simp
  rw[this,Nat.mul_comm];exact hz
 exact⟨.ref _,_,I.laid (t':=s.toks) (o:=.lst (List.replicate k.toNat xs).flatten) (λ b ob q=>zHp _ q) (Nat.le_refl _) ⟨hlen,_,0,r.rep k.toNat,Heap.get?_push_size _ rfl⟩,rfl,q _ (I.zJ.fresh (Nat.le_refl _))⟩
end L2
namespace L5
open PySem PySem.Spec L2 L3
open PyProof.Rows hiding St
section
variable {X:Cx}{K:PySem.W.Frag}{a b:Expr}{ta tb:zH}{pos:Pos}
noncomputable def Q6:D->Bool
 | .tup _=>true
 | _=>false
def jn:xq:=λ x y S Q=>∃ k ds,y=.int k/\Q6 x=false/\yw x S=some ds/\(ds≠[]/\0<=k/\k<=1000000/\ds.length*k.toNat<=sizeLine)/\∀ p,S p=none->Q (.ref p) (ups S p (.lst (List.replicate k.toNat ds).flatten))
def qv:xq:=λ x y S Q=>sE x y S Q\/jn x y S Q
noncomputable def wo:T->T->Option T
 | .lst ts,.int k=>if ts≠[]/\0<=k/\k<=1000000/\ts.length*k.toNat<=sizeLine then some (.lst (List.replicate k.toNat ts).flatten) else none
 | x,y=>gR x y
theorem qv.mo:w9 qv:=λ x y S Q Q' hq h=>by
 rcases h with h | ⟨k,ds,h1,h2,h3,h4,h5⟩
 .exact .inl (sE.mo x y S Q Q' hq h)
 .exact .inr ⟨k,ds,h1,h2,h3,h4,λ p hp=>hq _ _ (h5 p hp)⟩
theorem jn.fits:xY K jn (g8 K):=λ x y d e H S Q h1 h2 h3 h=>by
 obtain⟨k,ds,rfl,ht,hs,⟨c1,c2,c3,c4⟩,h⟩:=h;simp only[zk] at h2;obtain⟨a,xs,rfl,g1,g2⟩:=qa h1 h3 hs λ ts z=>by subst z;cases ht
 have hl:=g2.length;refine⟨a,k,xs,rfl,h2,g1,λ z=>c1 (by subst z;cases ds with | nil=>rfl | cons _ _=>simp at hl),c2,c3,by rw[<- hl];exact c4,λ p hp=>?_⟩;exact h p (h3.none hp) _ _ (by simp only[zk]) (.new hp _) (h3.ups (.new hp _) ⟨_,xa,zv.ext (.new hp _) _ (zv.rep g2 _)⟩)
theorem qv.fits:xY K qv (λ x y H Q=>(rI ve (λ i j=>.int (i*j)) x y H Q\/g7 K x y H Q)\/g8 K x y H Q):=λ x y d e H S Q h1 h2 h3 h=>by
 rcases h with h | h
 .exact .inl (sE.fits x y d e H S Q h1 h2 h3 h)
 .exact .inr (jn.fits x y d e H S Q h1 h2 h3 h)
theorem qq:Good2 zS wo qv:=λ S Z x y z d e Q hz hx hy ef hq=>by
 unfold wo at ef;split at ef
 .rename_i ts k;split at ef
  .rename_i hc;cases ef;obtain⟨ds,g1,g2⟩:=hx.seq (ts:=ts) rfl;cases hy.int;have hl:=g2.len;refine .inr ⟨_,ds,rfl,?_,g1,⟨λ q=>hc.1 (by subst q;simpa using hl.symm),hc.2.1,hc.2.2.1,by rw[hl];exact hc.2.2.2⟩,λ p hp=>hq _ _ (.new hp _) (rh hz hp (zu.rep g2 _))⟩;cases d with
   | tup es=>exact absurd hx (by
     intro q;rcases q with q | ⟨us,p,es',_,q,_⟩
     .simp only[Sn] at q;obtain⟨_,⟨q,_⟩ | ⟨_,q,_⟩,_⟩:=q <;> cases q
     .cases q)
   | _=>rfl
  .cases ef
 .exact .inl (QU S Z x y z d e Q hz hx hy ef hq)
theorem qe (ha:PD X a ta) (hb:PD X b tb):PD X (.BinOp a .Mult b pos) (yD qv ta tb):=o3 ((Sd.or T_).or Sb) qv.fits qv.mo ha hb
end
end L5
namespace L3
open PySem PySem.Spec PyProof.Rows L2
section
variable {X:Cx}{K:PySem.W.Frag}{e o:Expr}{te to:zH}{apos cpos:Pos}
def q8 (to te:zH):zH:=fun δ S Q=>to δ S λ x S1=>match x with
 | .ref p=>(∃ ds,S1 p=some (.lst ds))/\te δ S1 λ y S2=>∃ q ds es,y=.ref q/\S2 p=some (.lst ds)/\S2 q=some (.lst es)/\ds.length+es.length<=sizeLine/\Q .zl (ups S2 p (.lst (ds++es)))
 | _=>False
theorem q8.mo (h:y6 to) (h':y6 te):y6 (q8 to te):=fun δ S Q Q' hq z=>h δ S _ _ (λ x S1 z=>by
 cases x with
 | ref p=>exact⟨z.1,h' δ S1 _ _ (λ y S2 ⟨q,ds,es,a,b,c,d,w⟩=>⟨q,ds,es,a,b,c,d,hq _ _ w⟩) z.2⟩
 | _=>exact z) z
theorem TC {e0:Expr}(hpe:PE X e0 (i3 X.K "list" b9 (yd X.K to) (i0 (yd X.K te) iy))) (h:y6 to) (h':y6 te):PD X e0 (q8 to te):=by
 refine⟨q8.mo h h',PE.imp hpe fun σ H Q hu=>?_⟩;obtain⟨δ,S,r1,r2,z⟩:=hu;refine yd.go h r1 r2 z λ x S1 v H1 h1 q1 e1 p1=>?_;cases x with
 | ref p=>
  obtain⟨⟨ds,hd⟩,h1⟩:=h1;simp only[zk] at q1;subst q1;obtain⟨xs,g1,g2⟩:=p1 _ _ hd;refine⟨.inl ⟨rfl,xs,yf.of g1⟩,?_⟩;refine yd.go h' (r1.ext e1) p1 h1 λ y S2 w H2 h2 q2 e2 p2=>?_;obtain⟨q,ds',es,rfl,b1,b2,b3,b4⟩:=h2;simp only[zk] at q2;subst q2;obtain⟨xs',g3,g4⟩:=p2 _ _ b1;obtain⟨ys',g5,g6⟩:=p2 _ _ b2;refine⟨p,q,xs',ys',rfl,rfl,g3,g5,by rw[<- g4.length,<- g6.length];exact b3,?_⟩;have e4:Ext H2 (upd H2 p (.lst (xs'++ys'))):=.lst g3 _;exact b4 _ _ (by simp only[zk]) ((e1.trans e2).trans e4) (p2.ups e4 ⟨_,xa,zv.ext e4 _ (g4.append g6)⟩)
 | zl=>exact h1.elim
 | bl _=>exact h1.elim
 | int _=>exact h1.elim
 | str _=>exact h1.elim
 | tup _=>exact h1.elim
 | xb _=>exact h1.elim
theorem T5 (ho:PD X o to) (he:PD X e te)
  (hbase:attributeBase o "extend" X.env (eval o X.env)=eval o X.env:=by rfl)
  (hfew:((backTo cpos (starEach [e] X.env)).all (λ x=>!x.1)&&(backToKw cpos (keywordEach [] X.env)).all (λ x=>x.1.isSome)
   && decide ([e].length+([]:List Keyword).length+(if ([]:List Keyword).isEmpty then 0 else 1)<30))=true:=by rfl)
  (hline:(apos.endLine == cpos.line)=true:=by rfl) (hs:starEach [e] X.env=(false,eval e X.env)::starEach [] X.env:=by rfl) (hplain:(backTo cpos (starEach [] X.env)).any (·.1)=false:=by rfl):
  PD X (.Call (.Attribute o "extend" apos) [e] [] cpos) (q8 to te):=
 TC (bL PySem.F.plainAttrs_list PySem.F.slot_list_extend PySem.F.type_list_extend RU ho.pe (qY he.pe o6 hs) hbase hfew hline hs hplain) ho.mo he.mo
end
end L3
namespace L5
open PySem L2 L3
@[simp] noncomputable def fT (i:Nat) (f:Ev->Option T):Sm:=fun ρ=>match ρ[i]? with
 | some (some (.own (.lst ts)))=>(f ρ).bind λ y=>match y with
  | .lst us=>if ts.length+us.length<=sizeLine then some (.nx (ρ.set i (some (.own (.lst (ts++us)))))) else none
  | _=>none
 | _=>none
section
variable {R:Rk}{f:Ev->Option T}{te:zH}
theorem S9 (i:Nat) (hf:xX f te):xy R (fT i f) (ju (q8 (yY i) te)):=λ S0 Z0 S Z δ ρ o E F e P=>by
 unfold fT at e;split at e
 .rename_i ts h;obtain⟨y,e1,e2⟩:=zOb e;split at e2
  .rename_i us;split at e2
   .rename_i hl;cases e2;obtain⟨p,ob,h1,h2,h3,h4⟩:=F.er.ow i _ h;obtain⟨ds,rfl⟩:∃ ds,ob=.lst ds:=by
     cases ob with
     | lst ds=>exact⟨ds,rfl⟩
     | yy _=>exact h3.elim
    replace h3:zu (yj S Z) ts ds:=h3;show q8 (yY i) te δ S _;unfold q8 yY;rw[h1];refine⟨⟨ds,h2⟩,hf S Z δ ρ _ _ F.er e1 λ d S1 s1 r1=>?_⟩;obtain⟨q,es,rfl,g1,g2,g3⟩:=r1.2 us rfl;have F1:=F.grow s1;have g4:zu (yj S1 Z) us es:=zu.sx (sA λ a z=>.inl z) us g3;refine⟨q,ds,es,rfl,s1 _ _ h2,g2,by rw[h3.len,g4.len];exact hl,P _ Z δ (F1.mut (us:=.lst (ts++us)) (es:=.lst (ds++es)) i h h1 ((zu.sx (vx s1) ts h3).append g4))⟩
   .cases e2
  .cases e2
 .cases e
end
end L5
namespace L5
open PySem PySem.Spec L2 L3
open PyProof.Rows hiding St
section
variable {X:Cx}{K:PySem.W.Frag}{e:Expr}{es:List Expr}{tA:yK}{pos p:Pos}
def sF:w6:=λ ds S Q=>match ds with
 | [.int i]=>Q (.int i) S
 | [.bl k]=>Q (.int (if k then 1 else 0)) S
 | _=>False
theorem sF.mo:uC sF:=λ ds S Q Q' hq h=>by
 unfold sF at h ⊢;split at h
 .exact hq _ _ h
 .exact hq _ _ h
 .exact h.elim
theorem sF.fits:tW K sF (λ xs H Q=>(∃ i,xs=[.int i]/\Q (.int i) H)\/∃ k,xs=[.bl k]/\Q (.int (if k then 1 else 0)) H):=λ xs ds H S Q h0 h2 h=>by
 unfold sF at h;split at h
 .obtain⟨x,rfl,h1⟩:=h0.one;simp only[zk] at h1;subst h1;exact .inl ⟨_,rfl,h _ H (by simp only[zk]) (.refl H) h2⟩
 .obtain⟨x,rfl,h1⟩:=h0.one;simp only[zk] at h1;subst h1;exact .inr ⟨_,rfl,h _ H (by simp only[zk]) (.refl H) h2⟩
 .exact h.elim
theorem T9 (hm:X.mg "int"=none) (ha:wH X (e::es) tA) (hg:Gl X "int":=by rfl) (he:starEach (e::es) X.env=(false,eval e X.env)::starEach es X.env:=by rfl) (hpl:(backTo pos (starEach es X.env)).any (·.1)=false:=by rfl):PD X (.Call (.Name "int" p) (e::es) [] pos) (wy sF tA):=
 sg (ot OP hg hm PyProof.Rows.boot_int ha.pa (by decide) (by decide) he hpl) sF.mo sF.fits ha.mo
@[simp] noncomputable def f7:List T->Option T
 | [.int i]=>some (.int i)
 | [.bl k]=>some (.int (if k then 1 else 0))
 | _=>none
theorem good_int:uD zS f7 sF:=λ S Z ys z ds Q hz hv e hq=>by
 unfold f7 at e;split at e
 .cases e;obtain⟨d,rfl,h1⟩:=ui hv;cases h1.int;exact hq _ S (.refl S) (Cl.of (λ _=>nofun) vB)
 .cases e;obtain⟨d,rfl,h1⟩:=ui hv;cases h1.bl;exact hq _ S (.refl S) (Cl.of (λ _=>nofun) vB)
 .cases e
end
end L5
namespace L2
open PySem PySem.Spec PyProof.Rows
section
variable {X:Cx}{e st:Expr}{te ts:TE}{pos p2:Pos}
end
end L2
namespace L5
open PySem PySem.Spec L2 L3
open PyProof.Rows hiding St
section
variable {X:Cx}{K:PySem.W.Frag}{e st:Expr}{te ts:zH}{pos p2:Pos}
end
end L5
namespace L5
section
variable {α:Type}{P:List α->Prop}
theorem tT (h:∀ a,P [a]) (us:List α) (hl:us.length=1):P us:=match us,hl with | [a],_=>h a
theorem u9 (h:∀ a b,P [a,b]) (us:List α) (hl:us.length=2):P us:=match us,hl with | [a,b],_=>h a b
theorem sO (h:∀ a b c,P [a,b,c]) (us:List α) (hl:us.length=3):P us:=match us,hl with | [a,b,c],_=>h a b c
theorem ng (h:∀ a b c d,P [a,b,c,d]) (us:List α) (hl:us.length=4):P us:=match us,hl with | [a,b,c,d],_=>h a b c d
theorem Nh (h:∀ a b c d e,P [a,b,c,d,e]) (us:List α) (hl:us.length=5):P us:=match us,hl with | [a,b,c,d,e],_=>h a b c d e
theorem ar6 (h:∀ a b c d e f,P [a,b,c,d,e,f]) (us:List α) (hl:us.length=6):P us:=match us,hl with | [a,b,c,d,e,f],_=>h a b c d e f
theorem ar7 (h:∀ a b c d e f g,P [a,b,c,d,e,f,g]) (us:List α) (hl:us.length=7):P us:=match us,hl with | [a,b,c,d,e,f,g],_=>h a b c d e f g
theorem ar8 (h:∀ a b c d e f g i,P [a,b,c,d,e,f,g,i]) (us:List α) (hl:us.length=8):P us:=match us,hl with | [a,b,c,d,e,f,g,i],_=>h a b c d e f g i
end
end L5
namespace L5
open PySem PySem.Spec L2 L3
open PyProof.Rows hiding St
section
variable {P:Program}{w:World}{K:PySem.W.Frag}{mg:Str->Option Value}{base h:Heap}{x:Str}{st:Stmt}
def Fx (K:PySem.W.Frag) (x:Str) (st:Stmt):Prop:=∃ (f:Addr) (oc:Value) (od:Option Addr) (kV dc pm:Value) (an:Option Addr) (cd ct:Value) (sl:Array (Option Value)),
 PySem.W.nsIn K mainGlobals x=some (some (.ref f))/\K.lookup f=some ⟨oc,od,.func (PySem.W.fnOf x x (rF st) (vY st) (zL st) .none kV dc pm an cd ct),sl⟩/\PySem.W.codeIn K cd x=true/\PySem.W.keepIn K (.ref f)=true
theorem Fx.i {f:Addr}{oc:Value}{od:Option Addr}{kV dc pm:Value}{an:Option Addr}{cd ct:Value}{sl:Array (Option Value)}(a:PySem.W.nsIn K mainGlobals x=some (some (.ref f))) (l:K.lookup f=some ⟨oc,od,.func (PySem.W.fnOf x x (rF st) (vY st) (zL st) .none kV dc pm an cd ct),sl⟩) (c:PySem.W.codeIn K cd x=true) (k:PySem.W.keepIn K (.ref f)=true):Fx K x st:=⟨f,oc,od,kV,dc,pm,an,cd,ct,sl,a,l,c,k⟩
def Fy (K:PySem.W.Frag) (mg:Str->Option Value) (x:Str) (st:Stmt):Prop:=∃ (f:Addr) (fd:FuncData),tV K x x st f fd/\mg x=some (.ref f)
theorem Fx.mk (H:Fx K x st) (X:K.In h) (G:h.Ns mainGlobals mg):Fy K mg x st:=by
 obtain⟨f,oc,od,kV,dc,pm,an,cd,ct,sl,a,l,c,k⟩:=H;exact⟨f,_,ZC l c k,PySem.W.mg_of X G a⟩
theorem Fx.law {fa:Addr}{p:Str}(H:Fx K "law" st) (X:K.In h) (G:h.Ns mainGlobals mg) (hfa:mg "law"=some (.ref fa)) (hb:∀ (kV dc pm:Value) (an:Option Addr) (cd ct:Value) (s:Shared) (v:Value),BindsTo s (PySem.W.fnOf "law" "law" (rF st) (vY st) (zL st) .none kV dc pm an cd ct) ⟨[v],[]⟩ [(p,v)]):∃ fd:FuncData,tV K "law" "law" st fa fd/\∀ (s:Shared) (v:Value),BindsTo s fd ⟨[v],[]⟩ [(p,v)]:=by
 obtain⟨f,oc,od,kV,dc,pm,an,cd,ct,sl,a,l,c,k⟩:=H;have e:=hfa.symm.trans (PySem.W.mg_of X G a);cases e;exact⟨_,ZC l c k,hb kV dc pm an cd ct⟩
def Cn (K:PySem.W.Frag) (x:Str) (t:V):Prop:=∃ u,PySem.W.nsIn K mainGlobals x=some (some u)/\L2.RelV t u
theorem Cn.i {t:V}{u:Value}(a:PySem.W.nsIn K mainGlobals x=some (some u)) (r:L2.RelV t u):Cn K x t:=⟨u,a,r⟩
theorem Cn.mk {t:V}(H:Cn K x t) (X:K.In h) (G:h.Ns mainGlobals mg):∃ u,mg x=some u/\L2.RelV t u:=by
 obtain⟨u,a,r⟩:=H;exact⟨u,PySem.W.mg_of X G a,r⟩
theorem y8 {R:Rk} [Lo R] {N ps:List Str}{k n:Nat}{g:Sm}(F:Fy K mg x st) (Sc:yr N ps (zL st)) (hn:n=ps.length)
  (hb:∀ (kV doc pm:Value) (an:Option Addr) (cdv ct:Value) (us:List Value),us.length=ps.length->bindArgs (PySem.W.fnOf x x (rF st) (vY st) (zL st) .none kV doc pm an cdv ct) ⟨us,[]⟩=pure (ps.zip us))
  (hbody:∀ (f:Addr) (cdv:Value) (A:Around) (outer:List Env) (s:Shared) (H:Hp) (E:XK),yS k (A.deeper (envOfC x (zL st) s.heap.objs.size f cdv))->
   ∃ t,tq (sJ uh P w K mg base N x (zL st) f cdv A outer s H E).qj (vY st) t/\xy R g t):FD P w K mg base x (k+1) ps (yg R (yn N n g)):=by
 obtain⟨f,fd,F,hm⟩:=F;exact Pm F hm Sc hn hb (hbody f)
end
end L5
namespace RN
open L5
abbrev Bd:=List (Int×Int)
def xG (b c:Bd):Prop:=∀ q,zZ b q=true->zZ c q=true
theorem xG.refl (b:Bd):xG b b:=λ _ h=>h
theorem xG.of {b c:Bd}(h:∀ p∈b,∃ r∈c,r.1<=p.1/\r.2<=p.2):xG b c:=λ q x=>by
 obtain⟨p,hp,h1,h2⟩:=yJ.mp x;obtain⟨r,hr,h3,h4⟩:=h p hp;exact yJ.mpr ⟨r,hr,by omega,by omega⟩
theorem xG.at {b c:Bd}(h:xG b c) {p:Int×Int}(hp:p∈b):∃ r∈c,r.1<=p.1/\r.2<=p.2:=yJ.mp (h p (yJ.mpr ⟨p,hp,Int.le_refl _,Int.le_refl _⟩))
structure Gd (A B:Int) (b:Bd):Prop where
 jd:ug b
 wx:∀ p∈b,(0<=p.1/\p.1<=A)/\0<=p.2/\p.2<=B
noncomputable def wz:Bd:=[(0,0)]
theorem Oo {q:Int×Int}:zZ wz q=true↔0<=q.1/\0<=q.2:=by
 rw[yJ];unfold wz;simp
theorem Gd.wz {A B:Int}(hA:0<=A) (hB:0<=B):Gd A B wz:=⟨by unfold RN.wz ug;simp,λ p hp=>by
 unfold RN.wz at hp;cases List.mem_singleton.mp hp;exact⟨⟨Int.le_refl _,hA⟩,Int.le_refl _,hB⟩⟩
theorem Gd.Qm {A B:Int}{b:Bd}(h:Gd A B b):xG b RN.wz:=xG.of λ p hp=>⟨(0,0),by unfold RN.wz;simp,(h.wx p hp).1.1,(h.wx p hp).2.1⟩
theorem Gd.eq {A B:Int}{b c:Bd}(h:Gd A B b) (h':Gd A B c) (x:xG b c) (y:xG c b):b=c:=ug.eq h.jd h'.jd λ q=>by
 rw[Bool.eq_iff_iff];exact⟨x q,y q⟩
theorem Gd.least {A B:Int}{ps:Bd}(h:∀ p∈ps,(0<=p.1/\p.1<=A)/\0<=p.2/\p.2<=B):Gd A B (vG ps):=⟨fm ps,λ p hp=>h p (Qj hp)⟩
theorem aY {ps qs:Bd}(h:∀ p∈ps,∃ r∈qs,r.1<=p.1/\r.2<=p.2):xG (vG ps) (vG qs):=λ q x=>by
 rw[oB] at x ⊢;exact xG.of h q x
theorem Zn:∀ {b:Bd}{lo hi:Int},ug b->(∀ p∈b,lo<=p.1/\p.1<=hi)->(b.length:Int)<=hi+1-lo\/b=[]
 | [],_,_,_,_=>.inr rfl
 | p::b,lo,hi,h,hb=>by
  have h1:=List.pairwise_cons.mp h;have hp:=hb p zMc;refine .inl ?_;rcases Zn (lo:=p.1+1) (hi:=hi) h1.2 (λ q hq=>⟨by have:=(h1.1 q hq).1;omega,(hb q (zMo _ hq)).2⟩) with x | x
  .rw[List.length_cons];omega
  .subst x;simp;omega
theorem Zm:∀ {b:Bd}{lo hi:Int},ug b->(∀ p∈b,lo<=p.2/\p.2<=hi)->(b.length:Int)<=hi+1-lo\/b=[]
 | [],_,_,_,_=>.inr rfl
 | p::b,lo,hi,h,hb=>by
  have h1:=List.pairwise_cons.mp h;have hp:=hb p zMc;refine .inl ?_;rcases Zm (lo:=lo) (hi:=p.2-1) h1.2 (λ q hq=>⟨(hb q (zMo _ hq)).1,by have:=(h1.1 q hq).2;omega⟩) with x | x
  .rw[List.length_cons];omega
  .subst x;simp;omega
theorem Gd.qo {A B:Int}{b:Bd}(h:Gd A B b) (hA:0<=A):(b.length:Int)<=A+1:=by
 rcases Zn (lo:=0) (hi:=A) h.jd (λ p hp=>(h.wx p hp).1) with x | x
 .omega
 .subst x;simp;omega
theorem Gd.Qi {A B:Int}{b:Bd}(h:Gd A B b) (hB:0<=B):(b.length:Int)<=B+1:=by
 rcases Zm (lo:=0) (hi:=B) h.jd (λ p hp=>(h.wx p hp).2) with x | x
 .omega
 .subst x;simp;omega
noncomputable def yX (x:Int):Int:=if x>0 then x else 0
theorem kW (x:Int):0<=yX x:=by unfold yX;split <;> omega
theorem gQ {x y:Int}(h:x<=y):yX x<=yX y:=by unfold yX;split <;> split <;> omega
theorem RO {x g:Int}(h:0<=x) (hg:0<=g):yX (x-g)<=x:=by unfold yX;split <;> omega
noncomputable def xK (a b:Int) (p:Int×Int):Int×Int:=(yX (p.1-a),yX (p.2-b))
noncomputable def vV (A B:Int) (p:Int×Int):Bool:=decide (p.1<=A)&&decide (p.2<=B)
noncomputable def qC (A B a b:Int) (bd:Bd):Bd:=vG ((bd.map (xK a b)).filter (vV A B))
theorem Nj (A B a b:Int) (bd:Bd):Gd A B (qC A B a b bd):=Gd.least λ p hp=>by
 obtain⟨h1,h2⟩:=List.mem_filter.mp hp;obtain⟨q,_,rfl⟩:=List.mem_map.mp h1;have h3:(xK a b q).1<=A/\(xK a b q).2<=B:=by simpa [vV] using h2
 exact⟨⟨kW _,h3.1⟩,kW _,h3.2⟩
theorem YT (A B a b:Int) {bd bd':Bd}(h:xG bd bd'):xG (qC A B a b bd) (qC A B a b bd'):=aY λ p hp=>by
 obtain⟨h1,h2⟩:=List.mem_filter.mp hp;obtain⟨q,hq,rfl⟩:=List.mem_map.mp h1;obtain⟨r,hr,r1,r2⟩:=h.at hq;have h3:(xK a b q).1<=A/\(xK a b q).2<=B:=by simpa [vV] using h2
 have m1:(xK a b r).1<=(xK a b q).1:=gQ (by omega);have m2:(xK a b r).2<=(xK a b q).2:=gQ (by omega);exact⟨xK a b r,List.mem_filter.mpr ⟨List.mem_map.mpr ⟨r,hr,rfl⟩,by simp[vV];omega⟩,m1,m2⟩
noncomputable def uU (b c:Bd):Bd:=vG (b++c)
theorem PJ (b c:Bd) (q:Int×Int):zZ (uU b c) q=(zZ b q||zZ c q):=by unfold uU;rw[oB,Om]
theorem PH {A B:Int}{b c:Bd}(h:Gd A B b) (h':Gd A B c):Gd A B (uU b c):=Gd.least λ p hp=>by
 rcases List.mem_append.mp hp with x | x
 .exact h.wx p x
 .exact h'.wx p x
noncomputable def kZ (p q:Int×Int):Int×Int:=(if q.1>p.1 then q.1 else p.1,if q.2>p.2 then q.2 else p.2)
noncomputable def u6 (b c:Bd):Bd:=vG (b.flatMap λ p=>c.map (kZ p))
theorem YE (b c:Bd) (q:Int×Int):zZ (u6 b c) q=(zZ b q&&zZ c q):=by
 unfold u6;rw[oB,Bool.eq_iff_iff,Bool.and_eq_true,yJ,yJ,yJ];constructor
 .rintro⟨p,hp,h1,h2⟩;obtain⟨x,hx,hp⟩:=List.mem_flatMap.mp hp;obtain⟨y,hy,rfl⟩:=List.mem_map.mp hp;unfold kZ at h1 h2;dsimp only at h1 h2;refine⟨⟨x,hx,?_,?_⟩,⟨y,hy,?_,?_⟩⟩ <;> (first | (split at h1 <;> omega) | (split at h2 <;> omega))
 .rintro⟨⟨x,hx,h1,h2⟩,⟨y,hy,h3,h4⟩⟩;refine⟨kZ x y,List.mem_flatMap.mpr ⟨x,hx,List.mem_map.mpr ⟨y,hy,rfl⟩⟩,?_,?_⟩
  .show (if y.1>x.1 then y.1 else x.1)<=q.1;split <;> omega
  .show (if y.2>x.2 then y.2 else x.2)<=q.2;split <;> omega
theorem OZ {A B:Int}{b c:Bd}(h:Gd A B b) (h':Gd A B c):Gd A B (u6 b c):=Gd.least λ p hp=>by
 obtain⟨x,hx,hp⟩:=List.mem_flatMap.mp hp;obtain⟨y,hy,rfl⟩:=List.mem_map.mp hp;have a1:=h.wx x hx;have a2:=h'.wx y hy;unfold kZ;dsimp only;refine⟨⟨?_,?_⟩,?_,?_⟩ <;> split <;> omega
noncomputable def uV (bs:List Bd):Bd:=bs.foldl uU []
noncomputable def oY (bs:List Bd):Bd:=bs.foldl u6 wz
theorem fY:∀ (bs:List Bd) (b:Bd) (q:Int×Int),zZ (bs.foldl uU b) q=true↔zZ b q=true\/∃ c∈bs,zZ c q=true
 | [],b,q=>by simp
 | c::bs,b,q=>by
  rw[List.foldl_cons,fY bs,PJ,Bool.or_eq_true];constructor
  .rintro ((h | h) | ⟨d,hd,h⟩)
   .exact .inl h
   .exact .inr ⟨c,zMc,h⟩
   .exact .inr ⟨d,zMo _ hd,h⟩
  .rintro (h | ⟨d,hd,h⟩)
   .exact .inl (.inl h)
   .rcases List.mem_cons.mp hd with e | e
    .subst e;exact .inl (.inr h)
    .exact .inr ⟨d,e,h⟩
theorem mY {A B:Int}:∀ (bs:List Bd) (b:Bd),Gd A B b->(∀ c∈bs,Gd A B c)->Gd A B (bs.foldl uU b)
 | [],b,h,_=>h
 | c::bs,b,h,hb=>mY bs _ (PH h (hb c zMc)) λ d hd=>hb d (zMo _ hd)
theorem Gd.nil {A B:Int}:Gd A B []:=⟨by unfold ug;simp,λ p hp=>by cases hp⟩
theorem eD:∀ (bs:List Bd) (b:Bd) (q:Int×Int),zZ (bs.foldl u6 b) q=true↔zZ b q=true/\∀ c∈bs,zZ c q=true
 | [],b,q=>by simp
 | c::bs,b,q=>by
  rw[List.foldl_cons,eD bs,YE,Bool.and_eq_true];constructor
  .rintro⟨⟨h1,h2⟩,h3⟩;exact⟨h1,λ d hd=>by
    rcases List.mem_cons.mp hd with e | e
    .subst e;exact h2
    .exact h3 d e⟩
  .rintro⟨h1,h2⟩;exact⟨⟨h1,h2 c zMc⟩,λ d hd=>h2 d (zMo _ hd)⟩
theorem eC {A B:Int}:∀ (bs:List Bd) (b:Bd),Gd A B b->(∀ c∈bs,Gd A B c)->Gd A B (bs.foldl u6 b)
 | [],b,h,_=>h
 | c::bs,b,h,hb=>eC bs _ (OZ h (hb c zMc)) λ d hd=>hb d (zMo _ hd)
noncomputable def yW (pu:Bool) (g t:Int):Int×Int:=if pu=true then (t,g) else (g,t)
noncomputable def zW (pu:Bool) (p:Int×Int):Int:=if pu=true then p.2 else p.1
noncomputable def y9 (pu:Bool) (p:Int×Int):Int:=if pu=true then p.1 else p.2
noncomputable def wF (pu:Bool) (yc give get:Int):Nat->Int->Int->Bd
 | 0,_,_=>[]
 | n+1,g,t=>if g<=yc then yW pu g t::wF pu yc give get n (g+give) (yX (t-get)) else []
theorem U5 {pu:Bool}{g t g' t':Int}(h:g'<=g) (h':t'<=t):(yW pu g' t').1<=(yW pu g t).1/\(yW pu g' t').2<=(yW pu g t).2:=by
 cases pu
 .exact⟨h,h'⟩
 .exact⟨h',h⟩
theorem Y6 (pu:Bool) (yc give get:Int):∀ (n:Nat) (g t g' t':Int),g'<=g->t'<=t->∀ e∈wF pu yc give get n g t,∃ r∈wF pu yc give get n g' t',r.1<=e.1/\r.2<=e.2
 | 0,_,_,_,_,_,_,e,he=>by cases he
 | n+1,g,t,g',t',h1,h2,e,he=>by
  unfold wF at he ⊢;split at he
  .rw[if_pos (by omega)];rcases List.mem_cons.mp he with x | x
   .subst x;exact⟨_,zMc,U5 h1 h2⟩
   .obtain⟨r,hr,r1⟩:=Y6 pu yc give get n _ _ (g' + give) (yX (t'-get)) (by omega) (gQ (by omega)) e x;exact⟨r,zMo _ hr,r1⟩
  .cases he
theorem e9 (pu:Bool) (yc give get most:Int) (hg:1<=give) (hgt:0<=get):∀ (n:Nat) (g t:Int),0<=g->0<=t->t<=most->∀ e∈wF pu yc give get n g t,(0<=zW pu e/\zW pu e<=yc)/\0<=y9 pu e/\y9 pu e<=most
 | 0,_,_,_,_,_,e,he=>by cases he
 | n+1,g,t,h1,h2,h3,e,he=>by
  unfold wF at he;split at he
  .rcases List.mem_cons.mp he with x | x
   .subst x;cases pu <;> exact⟨⟨h1,by assumption⟩,h2,h3⟩
   .exact e9 pu yc give get most hg hgt n _ _ (by omega) (kW _) (Int.le_trans (RO h2 hgt) h3) e x
  .cases he
theorem Y7 (pu:Bool) (yc give get:Int) (hg:1<=give):∀ (n:Nat) (g t:Int),g<=yc+1->((wF pu yc give get n g t).length:Int)<=yc+1-g
 | 0,g,t,h=>by simp[wF];omega
 | n+1,g,t,h=>by
  unfold wF;split
  .rw[List.length_cons];by_cases hh:g+give<=yc+1
   .have:=Y7 pu yc give get hg n (g+give) (yX (t-get)) hh;omega
   .have e:wF pu yc give get n (g+give) (yX (t-get))=[]:=by
     cases n with
     | zero=>rfl
     | succ n=>unfold wF;rw[if_neg (by omega)]
    rw[e];simp;omega
  .simp;omega
end RN
namespace RN
open L5
structure Wy where
 f:Nat
 t:Nat
 a:Int
 b:Int
structure Sl where
 p:Nat
 pu:Bool
 gv:Int
 gt:Int
structure zC where
 A:Int
 B:Int
 os:List Bool
 ws:List Wy
 ss:List Sl
structure zC.Ok (F:zC):Prop where
 a0:0<=F.A
 a1:F.A<=12
 b0:0<=F.B
 b1:F.B<=12
 n1:1<=F.os.length
 n8:F.os.length<=8
 ws:∀ w∈F.ws,w.f<F.os.length/\w.t<F.os.length
 rS:F.ws.length<=60
 ss:∀ s∈F.ss,1<=s.gv/\0<=s.gt
 sl:F.ss=[]\/(F.A+1)*(F.B+1)<64
 s8:F.ss.length<=60
noncomputable def zC.yc (F:zC) (pu:Bool):Int:=if pu=true then F.B else F.A
noncomputable def xE (F:zC) (s:Sl) (p:Int×Int):Bd:=wF s.pu (F.yc s.pu) s.gv s.gt 100 (zW s.pu p) (y9 s.pu p)
noncomputable def pE (F:zC) (s:Sl) (bd:Bd):Bd:=vG (bd.flatMap (xE F s))
theorem O0 (F:zC) (s:Sl) {b c:Bd}(h:xG b c):xG (pE F s b) (pE F s c):=aY λ p hp=>by
 obtain⟨x,hx,hp⟩:=List.mem_flatMap.mp hp;obtain⟨r,hr,r1,r2⟩:=h.at hx;obtain⟨e,he,e1⟩:=Y6 s.pu (F.yc s.pu) s.gv s.gt 100 (zW s.pu x) (y9 s.pu x) (zW s.pu r) (y9 s.pu r) (by unfold zW;split <;> assumption) (by unfold y9;split <;> assumption) p hp;exact⟨e,List.mem_flatMap.mpr ⟨r,hr,he⟩,e1⟩
theorem Oz {F:zC}{s:Sl}(hs:1<=s.gv/\0<=s.gt) {p:Int×Int}(hp:(0<=p.1/\p.1<=F.A)/\0<=p.2/\p.2<=F.B):∀ e∈xE F s p,(0<=e.1/\e.1<=F.A)/\0<=e.2/\e.2<=F.B:=λ e he=>by
 obtain⟨p,pu,gv,gt⟩:=s;unfold xE zC.yc at he;cases pu with
 | true=>exact (e9 true F.B gv gt F.A hs.1 hs.2 100 _ _ hp.2.1 hp.1.1 hp.1.2 e he).symm
 | false=>exact e9 false F.A gv gt F.B hs.1 hs.2 100 _ _ hp.1.1 hp.2.1 hp.2.2 e he
theorem O1 {F:zC}{s:Sl}(hs:1<=s.gv/\0<=s.gt) {b:Bd}(h:Gd F.A F.B b):Gd F.A F.B (pE F s b):=Gd.least λ p hp=>by
 obtain⟨x,hx,hp⟩:=List.mem_flatMap.mp hp;exact Oz hs (h.wx x hx) p hp
noncomputable def wG (F:zC) (last:List Bd) (p:Nat):List Bd:=(F.ws.filter λ w=>decide (w.f=p)).map λ w=>qC F.A F.B w.a w.b (last.getD w.t [])
noncomputable def zC.stall (F:zC) (p:Nat):Option Sl:=F.ss.find? λ s=>decide (s.p=p)
noncomputable def xk (F:zC) (last:List Bd) (p:Nat):Bd:=
 if F.os.getD p false=true then match F.stall p with
  | none=>uV (wG F last p)
  | some s=>pE F s (uV (wG F last p))
 else oY (wG F last p)
theorem jI (F:zC) (last:List Bd) (p:Nat):∀ c∈wG F last p,Gd F.A F.B c:=λ c hc=>by
 obtain⟨w,_,rfl⟩:=List.mem_map.mp hc;exact Nj ..
theorem aK {F:zC}(ok:F.Ok) (last:List Bd) (p:Nat):Gd F.A F.B (xk F last p):=by
 unfold xk;have h1:Gd F.A F.B (uV (wG F last p)):=mY _ _ Gd.nil (jI F last p);split
 .split
  .exact h1
  .rename_i s e;exact O1 (ok.ss s (List.mem_of_find?_eq_some e)) h1
 .exact eC _ _ (Gd.wz ok.a0 ok.b0) (jI F last p)
theorem RL (F:zC) {l m:List Bd}(p:Nat) (h:∀ w∈F.ws,w.f=p->xG (l.getD w.t []) (m.getD w.t [])):xG (xk F l p) (xk F m p):=by
 have h1:xG (uV (wG F l p)) (uV (wG F m p)):=λ q hq=>by
  unfold uV at hq ⊢;rw[fY] at hq ⊢;rcases hq with x | ⟨c,hc,x⟩
  .exact .inl x
  .obtain⟨w,hw,rfl⟩:=List.mem_map.mp hc;obtain⟨w1,w2⟩:=List.mem_filter.mp hw;exact .inr ⟨_,List.mem_map.mpr ⟨w,hw,rfl⟩,YT _ _ _ _ (h w w1 (by simpa using w2)) q x⟩
 unfold xk;split
 .split
  .exact h1
  .exact O0 F _ h1
 .intro q hq;unfold oY at hq ⊢;rw[eD] at hq ⊢;refine⟨hq.1,λ c hc=>?_⟩;obtain⟨w,hw,rfl⟩:=List.mem_map.mp hc;obtain⟨w1,w2⟩:=List.mem_filter.mp hw;exact YT _ _ _ _ (h w w1 (by simpa using w2)) q (hq.2 _ (List.mem_map.mpr ⟨w,hw,rfl⟩))
theorem RK (F:zC) {l m:List Bd}(p:Nat) (h:∀ w∈F.ws,w.f=p->l.getD w.t []=m.getD w.t []):xk F l p=xk F m p:=by
 have:wG F l p=wG F m p:=by
  unfold wG;refine List.map_congr_left λ w hw=>?_;obtain⟨w1,w2⟩:=List.mem_filter.mp hw;rw[h w w1 (by simpa using w2)]
 unfold xk;rw[this]
noncomputable def box:List (Int×Int):=(List.range 13).flatMap λ(i:Nat)=>(List.range 13).map λ(j:Nat)=>((i:Int),(j:Int))
noncomputable def mu (b:Bd):Nat:=box.countP (zZ b)
theorem OX {p:Int×Int}(h:(0<=p.1/\p.1<=12)/\0<=p.2/\p.2<=12):p∈box:=by
 obtain⟨x,y⟩:=p;dsimp only at h;refine List.mem_flatMap.mpr ⟨x.toNat,List.mem_range.mpr (by omega),List.mem_map.mpr ⟨y.toNat,List.mem_range.mpr (by omega),?_⟩⟩;rw[Int.toNat_of_nonneg h.1.1,Int.toNat_of_nonneg h.2.1]
theorem Yw {α:Type}{p q:α->Bool}:∀ {l:List α},(∀ x,q x=true->p x=true)->(∃ x∈l,p x=true/\q x=false)->l.countP q<l.countP p
 | [],_,⟨x,hx,_⟩=>by cases hx
 | a::l,h,⟨x,hx,h1,h2⟩=>by
  have hle:l.countP q<=l.countP p:=List.countP_mono_left λ y _=>h y;rw[List.countP_cons,List.countP_cons];rcases List.mem_cons.mp hx with e | e
  .subst e;rw[if_neg (by rw[h2];decide),if_pos h1];omega
  .have:=Yw h ⟨x,e,h1,h2⟩;by_cases c:q a=true
   .rw[if_pos c,if_pos (h a c)];omega
   .rw[if_neg c];split <;> omega
theorem RS {A B:Int}(hA:A<=12) (hB:B<=12) {b c:Bd}(hb:Gd A B b) (hc:Gd A B c) (h:xG b c) (hne:b≠c):mu b<mu c:=by
 refine Yw h ?_;by_cases x:∃ p∈c,zZ b p=false
 .obtain⟨p,hp,e⟩:=x;have q:=hc.wx p hp;exact⟨p,OX ⟨⟨q.1.1,by omega⟩,q.2.1,by omega⟩,yJ.mpr ⟨p,hp,Int.le_refl _,Int.le_refl _⟩,e⟩
 .exact absurd (hb.eq hc h (xG.of λ p hp=>by
   cases e:zZ b p with
   | true=>exact yJ.mp e
   | false=>exact absurd ⟨p,hp,e⟩ x)) hne
theorem RT (b:Bd):mu b<=169:=by
 have:box.length=169:=by decide
 rw[<- this];exact List.countP_le_length
noncomputable def ur (l:List Bd):Nat:=(l.map mu).sum
theorem aM:∀ (l:List Bd),ur l<=169*l.length
 | []=>by simp[ur]
 | b::l=>by
  have h1:=aM l;have h2:=RT b;unfold ur at h1 ⊢;rw[List.map_cons,List.sum_cons,List.length_cons];omega
theorem gS {A B:Int}(hA:A<=12) (hB:B<=12):∀ {l m:List Bd},l.length=m.length->(∀ b∈l,Gd A B b)->(∀ b∈m,Gd A B b)->(∀ i,xG (l.getD i []) (m.getD i []))->l≠m->ur l<ur m
 | [],[],_,_,_,_,h=>absurd rfl h
 | [],_::_,h,_,_,_,_=>by simp at h
 | _::_,[],h,_,_,_,_=>by simp at h
 | b::l,c::m,hl,gb,gc,h,hne=>by
  have hl':l.length=m.length:=by simpa using hl
  have h0:xG b c:=h 0;have hs:∀ i,xG (l.getD i []) (m.getD i []):=λ i=>by simpa using h (i+1)
  have key:ur l<=ur m:=by
   by_cases e:l=m
   .rw[e];exact Nat.le_refl _
   .exact Nat.le_of_lt (gS hA hB hl' (λ x hx=>gb x (zMo _ hx)) (λ x hx=>gc x (zMo _ hx)) hs e)
  show (List.map mu (b::l)).sum<(List.map mu (c::m)).sum;rw[List.map_cons,List.sum_cons,List.map_cons,List.sum_cons];by_cases e:b=c
  .subst e;have:l≠m:=λ q=>hne (by rw[q]);have:=gS hA hB hl' (λ x hx=>gb x (zMo _ hx)) (λ x hx=>gc x (zMo _ hx)) hs this;unfold ur at this;omega
  .have:=RS hA hB (gb b zMc) (gc c zMc) h0 e;unfold ur at key;omega
noncomputable def tK (F:zC) (fresh:List Nat) (p:Nat):Bool:=F.ws.any λ w=>decide (w.f=p)&&fresh.contains w.t
noncomputable def yx (F:zC) (last:List Bd) (fresh:List Nat):List Bd:=(List.range last.length).map λ p=>if tK F fresh p=true then xk F last p else last.getD p []
noncomputable def wc (last following:List Bd):List Nat:=(List.range following.length).filter λ p=>decide (following.getD p []≠last.getD p [])
noncomputable def qc (F:zC):Nat->List (List Bd)->List Bd->List Nat->Option (List (List Bd))
 | 0,_,_,_=>none
 | n+1,told,last,fresh=>if fresh=[] then some (told++[last]) else
   let fo:=yx F last fresh
   let fr:=wc last fo
   if fr=[] then some (told++[last]) else qc F n (told++[last]) fo fr
structure St (F:zC) (last:List Bd) (fresh:List Nat):Prop where
 len:last.length=F.os.length
 gd:∀ b∈last,Gd F.A F.B b
 fr:∀ p<F.os.length,tK F fresh p=false->(∃ w∈F.ws,w.f=p)->xk F last p=last.getD p []
 le:∀ p<F.os.length,(∃ w∈F.ws,w.f=p)->xG (xk F last p) (last.getD p [])
theorem fJ {α:Type}(f:Nat->α) (n p:Nat) (d:α) (h:p<n):((List.range n).map f).getD p d=f p:=by
 rw[List.getD_eq_getElem?_getD,List.getElem?_map,List.getElem?_range h];rfl
theorem qk (F:zC) (last:List Bd) (fresh:List Nat):(yx F last fresh).length=last.length:=by unfold yx;simp
theorem St.at {F:zC}{last:List Bd}{fresh:List Nat}(s:St F last fresh) {p:Nat}(hp:p<F.os.length) (hw:∃ w∈F.ws,w.f=p):(yx F last fresh).getD p []=xk F last p:=by
 unfold yx;rw[fJ _ _ _ _ (by rw[s.len];exact hp)];split
 .rfl
 .rename_i h;exact (s.fr p hp (by simpa using h) hw).symm
theorem QQ {F:zC}{fresh:List Nat}{p:Nat}(h:tK F fresh p=true):∃ w∈F.ws,w.f=p:=by
 unfold tK at h;obtain⟨w,h1,h2⟩:=List.any_eq_true.mp h;exact⟨w,h1,by simp at h2;exact h2.1⟩
theorem St.no {F:zC}{last:List Bd}{fresh:List Nat}(s:St F last fresh) {p:Nat}(hp:p<F.os.length) (hw:¬ ∃ w∈F.ws,w.f=p):(yx F last fresh).getD p []=last.getD p []:=by
 unfold yx;rw[fJ _ _ _ _ (by rw[s.len];exact hp),if_neg (λ h=>hw (QQ h))]
theorem St.Y0 {F:zC}{last:List Bd}{fresh:List Nat}(s:St F last fresh) (p:Nat):xG ((yx F last fresh).getD p []) (last.getD p []):=by
 by_cases hp:p<F.os.length
 .by_cases hw:∃ w∈F.ws,w.f=p
  .rw[s.at hp hw];exact s.le p hp hw
  .rw[s.no hp hw];exact xG.refl _
 .have h1:(yx F last fresh).getD p []=[]:=by
   rw[List.getD_eq_getElem?_getD,List.getElem?_eq_none (by rw[qk,s.len];omega)];rfl
  rw[h1];intro q x;cases x
theorem St.next {F:zC}(ok:F.Ok) {last:List Bd}{fresh:List Nat}(s:St F last fresh):St F (yx F last fresh) (wc last (yx F last fresh)) where
 len:=by rw[qk,s.len]
 gd:=λ b hb=>by
  unfold yx at hb;obtain⟨p,hp,rfl⟩:=List.mem_map.mp hb;split
  .exact aK ok last p
  .have hlt:=List.mem_range.mp hp;rw[List.getD_eq_getElem?_getD,List.getElem?_eq_getElem hlt];exact s.gd _ (List.getElem_mem hlt)
 fr:=λ p hp hn hw=>by
  rw[s.at hp hw];refine RK F p λ w w1 w2=>?_;have hwt:=(ok.ws w w1).2;by_cases e:(yx F last fresh).getD w.t []=last.getD w.t []
  .exact e
  .have:tK F (wc last (yx F last fresh)) p=true:=by
    unfold tK;refine List.any_eq_true.mpr ⟨w,w1,?_⟩;have:w.t∈wc last (yx F last fresh):=by
     unfold wc;exact List.mem_filter.mpr ⟨List.mem_range.mpr (by rw[qk,s.len];exact hwt),by simpa using e⟩
    simp[w2,this]
   rw[this] at hn;cases hn
 le:=λ p hp hw=>by
  rw[s.at hp hw];exact RL F p λ w w1 w2=>s.Y0 w.t
theorem Pb {last fo:List Bd}(hl:fo.length=last.length) (h:wc last fo≠[]):fo≠last:=λ e=>h (by
 subst e;unfold wc;simp)
noncomputable def start (F:zC):List Bd:=List.replicate F.os.length wz
theorem St.start {F:zC}(ok:F.Ok):St F (start F) (List.range F.os.length) where
 len:=by unfold RN.start;simp
 gd:=λ b hb=>by rw[List.eq_of_mem_replicate hb];exact Gd.wz ok.a0 ok.b0
 fr:=λ p hp hn ⟨w,w1,w2⟩=>by
  have:tK F (List.range F.os.length) p=true:=by
   unfold tK;refine List.any_eq_true.mpr ⟨w,w1,?_⟩;have:=(ok.ws w w1).2;simp[w2,this]
  rw[this] at hn;cases hn
 le:=λ p hp hw=>by
  have e:(RN.start F).getD p []=wz:=by
   unfold RN.start;rw[List.getD_eq_getElem?_getD,List.getElem?_replicate,if_pos hp];rfl
  rw[e];exact (aK ok _ p).Qm
theorem bj {F:zC}(ok:F.Ok):∀ (n:Nat) (told:List (List Bd)) (last:List Bd) (fresh:List Nat),St F last fresh->ur last<n->
  ∃ more last',qc F n told last fresh=some (told++last::more)/\(∀ r∈last::more,r.length=F.os.length/\∀ b∈r,Gd F.A F.B b)/\(last::more).getLast?=some last'/\more.length<=ur last
 | 0,_,_,_,_,h=>by omega
 | n+1,told,last,fresh,s,h=>by
  unfold qc;split
  .exact⟨[],last,rfl,λ r hr=>by cases List.mem_singleton.mp hr;exact⟨s.len,s.gd⟩,rfl,Nat.zero_le _⟩
  .dsimp only;split
   .exact⟨[],last,rfl,λ r hr=>by cases List.mem_singleton.mp hr;exact⟨s.len,s.gd⟩,rfl,Nat.zero_le _⟩
   .rename_i hf;have s':=s.next ok;have hlt:ur (yx F last fresh)<ur last:=gS ok.a1 ok.b1 (qk ..) s'.gd s.gd s.Y0 (Pb (qk ..) hf);obtain⟨more,last',e1,e2,e3,e4⟩:=bj ok n (told++[last]) _ _ s' (by omega);refine⟨yx F last fresh::more,last',by rw[e1];simp,λ r hr=>?_,by rw[List.getLast?_cons_cons];exact e3,by rw[List.length_cons];omega⟩;rcases List.mem_cons.mp hr with e | e
    .subst e;exact⟨s.len,s.gd⟩
    .exact e2 r e
end RN
namespace RN
open L5
theorem Nk {A B a b:Int}{bd:Bd}(h0:∀ p∈bd,0<=p.1/\0<=p.2) {q:Int×Int}(hq:(0<=q.1/\q.1<=A)/\0<=q.2/\q.2<=B):zZ (qC A B a b bd) q=true↔zZ bd (q.1+a,q.2+b)=true:=by
 unfold qC;rw[oB,yJ,yJ];constructor
 .rintro⟨p,hp,h1,h2⟩;obtain⟨hp,_⟩:=List.mem_filter.mp hp;obtain⟨r,hr,rfl⟩:=List.mem_map.mp hp;refine⟨r,hr,?_,?_⟩
  .unfold xK yX at h1;dsimp only at h1 ⊢;split at h1 <;> omega
  .unfold xK yX at h2;dsimp only at h2 ⊢;split at h2 <;> omega
 .rintro⟨r,hr,h1,h2⟩;dsimp only at h1 h2;have e1:(xK a b r).1<=q.1:=by unfold xK yX;dsimp only;split <;> omega
  have e2:(xK a b r).2<=q.2:=by unfold xK yX;dsimp only;split <;> omega
  refine⟨xK a b r,List.mem_filter.mpr ⟨List.mem_map.mpr ⟨r,hr,rfl⟩,?_⟩,e1,e2⟩;unfold vV;rw[decide_eq_true (by omega),decide_eq_true (by omega)];rfl
theorem eA (pu:Bool) (yc give get:Int) (hg:1<=give) (hgt:0<=get):∀ (n:Nat) (g t:Int),0<=t->yc-g<n->∀ (G T:Int),G<=yc->
  ((∃ e∈wF pu yc give get n g t,zW pu e<=G/\y9 pu e<=T)↔∃ k:Nat,g+k*give<=G/\yX (t-k*get)<=T)
 | 0,g,t,ht,hn,G,T,hG=>by
  constructor
  .rintro⟨e,he,_⟩;cases he
  .rintro⟨k,h1,_⟩;exfalso;have:0<=(k:Int)*give:=Int.mul_nonneg (by omega) (by omega);omega
 | n+1,g,t,ht,hn,G,T,hG=>by
  have gv:∀ x y,zW pu (yW pu x y)=x:=λ x y=>by cases pu <;> rfl
  have gt:∀ x y,y9 pu (yW pu x y)=y:=λ x y=>by cases pu <;> rfl
  have ih:=eA pu yc give get hg hgt n (g+give) (yX (t-get)) (kW _) (by omega) G T hG;have mm:∀ k:Nat,yX (yX (t-get)-k*get)=yX (t-(k+1:Nat)*get):=λ k=>by
   have:0<=(k:Int)*get:=Int.mul_nonneg (by omega) hgt;have e:((k+1:Nat):Int)*get=k*get+get:=by rw[Int.natCast_succ,Int.add_mul];omega
   rw[e];unfold yX;split <;> split <;> (try split) <;> omega
  have gg:∀ k:Nat,g+give+k*give=g+(k+1:Nat)*give:=λ k=>by
   rw[Int.natCast_succ,Int.add_mul];omega
  unfold wF;split
  .rename_i hgb;constructor
   .rintro⟨e,he,h1,h2⟩;rcases List.mem_cons.mp he with rfl | he
    .rw[gv] at h1;rw[gt] at h2;refine⟨0,by simpa using h1,?_⟩;unfold yX;split <;> simp at * <;> omega
    .obtain⟨k,k1,k2⟩:=ih.mp ⟨e,he,h1,h2⟩;exact⟨k+1,by rw[<- gg];exact k1,by rw[<- mm];exact k2⟩
   .rintro⟨k,k1,k2⟩;cases k with
    | zero=>
     refine⟨_,zMc,by rw[gv];simpa using k1,?_⟩;rw[gt];unfold yX at k2;split at k2 <;> simp at * <;> omega
    | succ k=>
     obtain⟨e,he,h1⟩:=ih.mpr ⟨k,by rw[gg];exact k1,by rw[mm];exact k2⟩;exact⟨e,zMo _ he,h1⟩
  .rename_i hgb;constructor
   .rintro⟨e,he,_⟩;cases he
   .rintro⟨k,h1,_⟩;exfalso;have:0<=(k:Int)*give:=Int.mul_nonneg (by omega) (by omega);omega
theorem rC {pu:Bool}{p q:Int×Int}:(p.1<=q.1/\p.2<=q.2)↔zW pu p<=zW pu q/\y9 pu p<=y9 pu q:=by
 cases pu
 .exact Iff.rfl
 .exact And.comm
theorem O2 {F:zC}{s:Sl}(hs:1<=s.gv/\0<=s.gt) (hA:F.A<=12) (hB:F.B<=12) {b:Bd}(hb:∀ p∈b,0<=p.1/\0<=p.2) {q:Int×Int}(hq:(0<=q.1/\q.1<=F.A)/\0<=q.2/\q.2<=F.B):
  zZ (pE F s b) q=true↔∃ k:Nat,zZ b (yW s.pu (zW s.pu q-k*s.gv) (y9 s.pu q+k*s.gt))=true:=by
 have hbr:F.yc s.pu<=12:=by unfold zC.yc;split <;> assumption
 have hqb:zW s.pu q<=F.yc s.pu:=by unfold zW zC.yc;split <;> omega
 have hq0:0<=zW s.pu q/\0<=y9 s.pu q:=by unfold zW y9;split <;> omega
 have gv:∀ x y,zW s.pu (yW s.pu x y)=x:=λ x y=>by cases s.pu <;> rfl
 have gt:∀ x y,y9 s.pu (yW s.pu x y)=y:=λ x y=>by cases s.pu <;> rfl
 unfold pE;rw[oB,yJ];constructor
 .rintro⟨e,he,h12⟩;obtain⟨p,hp,he⟩:=List.mem_flatMap.mp he;obtain⟨h1,h2⟩:=rC (pu:=s.pu).mp h12;have p0:=hb p hp;have g0:0<=zW s.pu p/\0<=y9 s.pu p:=by unfold zW y9;split <;> omega
  obtain⟨k,k1,k2⟩:=(eA s.pu (F.yc s.pu) s.gv s.gt hs.1 hs.2 100 _ _ g0.2 (by omega) _ _ hqb).mp ⟨e,he,h1,h2⟩;refine⟨k,yJ.mpr ⟨p,hp,rC (pu:=s.pu).mpr ⟨by rw[gv];omega,?_⟩⟩⟩;rw[gt];unfold yX at k2;split at k2 <;> omega
 .rintro⟨k,hk⟩;obtain⟨p,hp,h12⟩:=yJ.mp hk;obtain⟨h1,h2⟩:=rC (pu:=s.pu).mp h12;rw[gv] at h1;rw[gt] at h2;have p0:=hb p hp;have g0:0<=zW s.pu p/\0<=y9 s.pu p:=by unfold zW y9;split <;> omega
  obtain⟨e,he,h3⟩:=(eA s.pu (F.yc s.pu) s.gv s.gt hs.1 hs.2 100 (zW s.pu p) (y9 s.pu p) g0.2 (by omega) (zW s.pu q) (y9 s.pu q) hqb).mpr ⟨k,by omega,by unfold yX;split <;> omega⟩;exact⟨e,List.mem_flatMap.mpr ⟨p,hp,he⟩,rC (pu:=s.pu).mpr h3⟩
end RN
namespace RN
open L5
noncomputable def xl (F:zC):Nat->List Bd
 | 0=>start F
 | k+1=>(List.range F.os.length).map λ p=>xk F (xl F k) p
theorem fy (F:zC):∀ k,(xl F k).length=F.os.length
 | 0=>by unfold xl start;simp
 | k+1=>by unfold xl;simp
theorem RJ {F:zC}{last:List Bd}{fresh:List Nat}(s:St F last fresh) (hw:∀ p<F.os.length,∃ w∈F.ws,w.f=p):yx F last fresh=(List.range F.os.length).map λ p=>xk F last p:=by
 refine List.ext_getElem (by rw[qk,s.len];simp) λ i h1 h2=>?_;have hi:i<F.os.length:=by simpa using h2
 have e:=s.at hi (hw i hi);rw[List.getD_eq_getElem?_getD,List.getElem?_eq_getElem h1] at e;simpa using e
theorem Pc {last fo:List Bd}(hl:fo.length=last.length) (h:wc last fo=[]):fo=last:=by
 refine List.ext_getElem hl λ i h1 h2=>?_;have:i∉wc last fo:=by rw[h];simp
 unfold wc at this;rw[List.mem_filter] at this;have e:fo.getD i []=last.getD i []:=Classical.byContradiction λ hne=>this ⟨List.mem_range.mpr h1,by simpa using hne⟩;rw[List.getD_eq_getElem?_getD,List.getElem?_eq_getElem h1,List.getD_eq_getElem?_getD,List.getElem?_eq_getElem h2] at e;simpa using e
theorem bo {F:zC}(ok:F.Ok) (hw:∀ p<F.os.length,∃ w∈F.ws,w.f=p):∀ (n:Nat) (told:List (List Bd)) (k:Nat) (fresh:List Nat) (res:List (List Bd)),St F (xl F k) fresh->fresh≠[]->told=(List.range k).map (xl F)->
  qc F n told (xl F k) fresh=some res->∃ m,res=(List.range (m+1)).map (xl F)/\xl F (m+1)=xl F m
 | 0,_,_,_,_,_,_,_,h=>by cases h
 | n+1,told,k,fresh,res,s,hf,ht,h=>by
  unfold qc at h;rw[if_neg hf] at h;dsimp only at h;have e:yx F (xl F k) fresh=xl F (k+1):=RJ s hw;have et:told++[xl F k]=(List.range (k+1)).map (xl F):=by rw[ht,List.range_succ,List.map_append];rfl
  rw[e,et] at h;split at h
  .rename_i hfr;cases h;exact⟨k,rfl,Pc (by rw[fy,fy]) hfr⟩
  .rename_i hfr;have s':=s.next ok;rw[e] at s';exact bo ok hw n _ (k+1) _ res s' hfr rfl h
end RN
namespace RN
open L5
def xP (F:zC) (q:Int×Int):Prop:=(0<=q.1/\q.1<=F.A)/\0<=q.2/\q.2<=F.B
noncomputable def r_ (F:zC) (q:Int×Int) (w:Wy):Option (Int×Int):=if q.1+w.a<0\/q.2+w.b<0 then none else some (min (q.1+w.a) F.A,min (q.2+w.b) F.B)
noncomputable def xA (F:zC) (last:List Bd) (q:Int×Int) (w:Wy):Bool:=match r_ F q w with
 | none=>false
 | some r=>zZ (last.getD w.t []) r
noncomputable def x_ (F:zC) (p:Nat):List Wy:=F.ws.filter λ w=>decide (w.f=p)
noncomputable def wN (F:zC) (s:Sl):Nat->Int×Int->List (Int×Int)
 | 0,q=>[q]
 | n+1,q=>q::if s.gv<=zW s.pu q then wN F s n (yW s.pu (zW s.pu q-s.gv) (min (y9 s.pu q+s.gt) (F.yc (!s.pu)))) else []
noncomputable def yV (F:zC) (p:Nat) (q:Int×Int):List (Int×Int):=match F.stall p with
 | none=>[q]
 | some s=>wN F s 20 q
noncomputable def oK (F:zC) (last:List Bd) (p:Nat) (q:Int×Int):Bool:=
 if F.os.getD p false=true then (yV F p q).any λ r=>(x_ F p).any (xA F last r) else (x_ F p).all (xA F last q)
theorem Ol {A B:Int}{b:Bd}(hb:Gd A B b) (x y:Int):zZ b (min x A,min y B)=zZ b (x,y):=by
 rw[Bool.eq_iff_iff,yJ,yJ];constructor
 .rintro⟨p,hp,h1,h2⟩;dsimp only at h1 h2;exact⟨p,hp,by dsimp only;omega,by dsimp only;omega⟩
 .rintro⟨p,hp,h1,h2⟩;have:=hb.wx p hp;dsimp only at h1 h2;exact⟨p,hp,by dsimp only;omega,by dsimp only;omega⟩
theorem Ql {F:zC}{last:List Bd}{w:Wy}(hb:Gd F.A F.B (last.getD w.t [])) (q:Int×Int):xA F last q w=zZ (last.getD w.t []) (q.1+w.a,q.2+w.b):=by
 unfold xA r_;by_cases h:q.1+w.a<0\/q.2+w.b<0
 .rw[if_pos h]
  symm
  rw[<- Bool.not_eq_true,yJ];rintro⟨p,hp,h1,h2⟩;have:=hb.wx p hp;dsimp only at h1 h2;omega
 .rw[if_neg h];exact Ol hb _ _
theorem ja {F:zC}{last:List Bd}{w:Wy}(hb:Gd F.A F.B (last.getD w.t [])) {q:Int×Int}(hq:xP F q):zZ (qC F.A F.B w.a w.b (last.getD w.t [])) q=xA F last q w:=by
 rw[Ql hb,Bool.eq_iff_iff];exact Nk (λ p hp=>⟨(hb.wx p hp).1.1,(hb.wx p hp).2.1⟩) hq
theorem fX {F:zC}{last:List Bd}(hg:∀ p,Gd F.A F.B (last.getD p [])) {p:Nat}{q:Int×Int}(hq:xP F q):zZ (uV (wG F last p)) q=(x_ F p).any (xA F last q):=by
 rw[Bool.eq_iff_iff,uV,fY,List.any_eq_true];constructor
 .rintro (h | ⟨c,hc,h⟩)
  .cases h
  .unfold wG at hc;obtain⟨w,hw,rfl⟩:=List.mem_map.mp hc;exact⟨w,hw,by rw[<- ja (hg w.t) hq];exact h⟩
 .rintro⟨w,hw,h⟩;exact .inr ⟨_,List.mem_map.mpr ⟨w,hw,rfl⟩,by rw[ja (hg w.t) hq];exact h⟩
theorem OY {F:zC}{last:List Bd}(hg:∀ p,Gd F.A F.B (last.getD p [])) {p:Nat}{q:Int×Int}(hq:xP F q):zZ (oY (wG F last p)) q=(x_ F p).all (xA F last q):=by
 rw[Bool.eq_iff_iff,oY,eD,List.all_eq_true];constructor
 .rintro⟨_,h⟩ w hw;rw[<- ja (hg w.t) hq];exact h _ (List.mem_map.mpr ⟨w,hw,rfl⟩)
 .intro h;refine⟨Oo.mpr ⟨hq.1.1,hq.2.1⟩,λ c hc=>?_⟩;unfold wG at hc;obtain⟨w,hw,rfl⟩:=List.mem_map.mp hc;rw[ja (hg w.t) hq];exact h w hw
theorem vI (pu:Bool) (x y:Int):zW pu (yW pu x y)=x:=by cases pu <;> rfl
theorem sC (pu:Bool) (x y:Int):y9 pu (yW pu x y)=y:=by cases pu <;> rfl
theorem mq (pu:Bool) (q:Int×Int):yW pu (zW pu q) (y9 pu q)=q:=by cases pu <;> rfl
theorem vi {F:zC}{pu:Bool}{q:Int×Int}:xP F q↔(0<=zW pu q/\zW pu q<=F.yc pu)/\0<=y9 pu q/\y9 pu q<=F.yc (!pu):=by
 unfold xP zC.yc;cases pu
 .exact Iff.rfl
 .exact And.comm
theorem e7 {F:zC}{s:Sl}(hs:1<=s.gv/\0<=s.gt):∀ (n:Nat) {q:Int×Int},xP F q->∀ r∈wN F s n q,xP F r
 | 0,q,h,r,hr=>by cases List.mem_singleton.mp hr;exact h
 | n+1,q,h,r,hr=>by
  unfold wN at hr;rcases List.mem_cons.mp hr with rfl | hr
  .exact h
  .split at hr
   .rename_i hg;refine e7 hs n ?_ r hr;have h':=vi (pu:=s.pu).mp h;rw[vi (pu:=s.pu),vI,sC];omega
   .cases hr
theorem Y5 {F:zC}{s:Sl}(hs:1<=s.gv/\0<=s.gt) {b:Bd}(hb:Gd F.A F.B b):∀ (n:Nat) {q:Int×Int},xP F q->zW s.pu q<n->
  ((∃ k:Nat,zZ b (yW s.pu (zW s.pu q-k*s.gv) (y9 s.pu q+k*s.gt))=true)↔(wN F s n q).any (zZ b)=true)
 | 0,q,h,hn=>by
  have:=(vi (pu:=s.pu).mp h).1.1;omega
 | n+1,q,h,hn=>by
  have h':=vi (pu:=s.pu).mp h;have cut:∀ x y,zZ b (yW s.pu x y)=zZ b (yW s.pu x (min y (F.yc (!s.pu)))):=λ x y=>by
   rw[Bool.eq_iff_iff,yJ,yJ];constructor
   .rintro⟨p,hp,h1⟩;have h2:=rC (pu:=s.pu).mp h1;have h3:=vi (pu:=s.pu).mp (show xP F p from hb.wx p hp);rw[vI,sC] at h2;exact⟨p,hp,rC (pu:=s.pu).mpr (by rw[vI,sC];omega)⟩
   .rintro⟨p,hp,h1⟩;have h2:=rC (pu:=s.pu).mp h1;rw[vI,sC] at h2;exact⟨p,hp,rC (pu:=s.pu).mpr (by rw[vI,sC];omega)⟩
  unfold wN;rw[List.any_cons,Bool.or_eq_true];by_cases hg:s.gv<=zW s.pu q
  .rw[if_pos hg];have hi:xP F (yW s.pu (zW s.pu q-s.gv) (min (y9 s.pu q+s.gt) (F.yc (!s.pu)))):=by
    rw[vi (pu:=s.pu),vI,sC];omega
   have ih:=Y5 hs hb n hi (by rw[vI];omega);rw[vI,sC] at ih;have sh:∀ k:Nat,zZ b (yW s.pu (zW s.pu q-s.gv-k*s.gv) (min (y9 s.pu q+s.gt) (F.yc (!s.pu))+k*s.gt))=zZ b (yW s.pu (zW s.pu q-(k+1:Nat)*s.gv) (y9 s.pu q+(k+1:Nat)*s.gt)):=λ k=>by
    have e1:((k+1:Nat):Int)*s.gv=k*s.gv+s.gv:=by rw[Int.natCast_succ,Int.add_mul];omega
    have e2:((k+1:Nat):Int)*s.gt=k*s.gt+s.gt:=by rw[Int.natCast_succ,Int.add_mul];omega
    have k0:0<=(k:Int)*s.gt:=Int.mul_nonneg (by omega) hs.2;rw[e1,e2,cut,cut (zW s.pu q-(k*s.gv+s.gv))];congr 2
    .omega
    .omega
   rw[<- ih];constructor
   .rintro⟨k,hk⟩;cases k with
    | zero=>exact .inl (by simpa [mq] using hk)
    | succ k=>exact .inr ⟨k,by rw[sh];exact hk⟩
   .rintro (hk | ⟨k,hk⟩)
    .exact⟨0,by simpa [mq] using hk⟩
    .exact⟨k+1,by rw[<- sh];exact hk⟩
  .rw[if_neg hg];constructor
   .rintro⟨k,hk⟩;cases k with
    | zero=>exact .inl (by simpa [mq] using hk)
    | succ k=>
     exfalso;obtain⟨p,hp,h1⟩:=yJ.mp hk;have h2:=rC (pu:=s.pu).mp h1;have h3:=vi (pu:=s.pu).mp (show xP F p from hb.wx p hp);rw[vI] at h2;have e1:((k+1:Nat):Int)*s.gv=k*s.gv+s.gv:=by rw[Int.natCast_succ,Int.add_mul];omega
     have k0:0<=(k:Int)*s.gv:=Int.mul_nonneg (by omega) (by omega);rw[e1] at h2;omega
   .rintro (hk | hk)
    .exact⟨0,by simpa [mq] using hk⟩
    .cases hk
theorem RI {F:zC}(ok:F.Ok) {last:List Bd}(hg:∀ p,Gd F.A F.B (last.getD p [])) (p:Nat) {q:Int×Int}(hq:xP F q):zZ (xk F last p) q=oK F last p q:=by
 have ge:Gd F.A F.B (uV (wG F last p)):=mY _ _ Gd.nil (jI F last p);unfold xk oK yV;by_cases ho:F.os.getD p false=true
 .rw[if_pos ho,if_pos ho];cases hs:F.stall p with
  | none=>simp only[List.any_cons,List.any_nil,Bool.or_false];exact fX hg hq
  | some s=>
   have hs':=ok.ss s (List.mem_of_find?_eq_some hs);have hgv:zW s.pu q<20:=by
    have:=vi (pu:=s.pu).mp hq;have:F.yc s.pu<=12:=by have:=ok.a1;have:=ok.b1;unfold zC.yc;split <;> assumption
    omega
   rw[Bool.eq_iff_iff];dsimp only;rw[O2 hs' ok.a1 ok.b1 (λ p hp=>⟨(ge.wx p hp).1.1,(ge.wx p hp).2.1⟩) hq,Y5 hs' ge 20 hq (by omega),List.any_eq_true,List.any_eq_true];constructor
   .rintro⟨r,hr,h⟩;exact⟨r,hr,by rw[<- fX hg (e7 hs' 20 hq r hr)];exact h⟩
   .rintro⟨r,hr,h⟩;exact⟨r,hr,by rw[fX hg (e7 hs' 20 hq r hr)];exact h⟩
 .rw[if_neg ho,if_neg ho];exact OY hg hq
end RN
namespace yE
open PySem L2 L3 L5
def Wi:Sm:=
 (retS (pK (instS "int" (zc 0)) (gO (instS "bool" (zc 0)))))
def jZ:List T->Option T:=yn ["thing"] 1 Wi
def XR:Sm:=
 (retS (zD x9 (ze (zb zp (zc 0) (cS (.int 1))) zq)))
def rO:List T->Option T:=yn ["floor"] 1 XR
def Wu:Sm:=
 (retS (pK (zb tL (zb zp (zc 0) (cS (.int 0))) (zb zp (zc 1) (cS (.int 0)))) (zb tL (zb zp (zc 0) (cS (.int 1))) (zb zp (zc 1) (cS (.int 1))))))
def nR:List T->Option T:=yn ["pair","other"] 2 Wu
def l9:Sm:=
 (yG (vX (uW (xS (zc 1))) (zR (zb yH (zb zp (zc 2) (cS (.int 1))) (zb zp (zb zp (zc 1) (rq (cS (.int 1)))) (cS (.int 1)))))) (u_ 1 (zt 2)) yF)
def XW:Sm:=
 (zy (u7 1 (wq zq))
 (zy (vj [2] (xB (zD pX (ze (zc 0) zq))) (zK 2) l9)
 (retS (zD s_ (ze (zc 1) zq)))))
def rP:List T->Option T:=yn ["pairs","least","pair"] 1 XW
def pH:Sm:=
 (zy (u_ 4 (Zy (zR (zb (zM false) (zc 3) (cS (.int 0)))) (tupS (ze (zt 5) (ze (zt 6) zq))) (tupS (ze (zt 6) (ze (zt 5) zq)))))
 (zy (zN 5 (zb yQ (zc 5) (zb zp (zc 1) (cS (.int 2)))))
 (zN 6 (zD mH (ze (cS (.int 0)) (ze (zb wW (zc 6) (zb zp (zc 1) (cS (.int 3)))) zq))))))
def XS:Sm:=
 (zy (zN 3 (zb zp (zc 1) (cS (.int 1))))
 (zy (u7 4 (wq zq))
 (zy (zN 5 (zb zp (zc 2) (zc 3)))
 (zy (zN 6 (zb zp (zc 2) (zb wW (cS (.int 1)) (zc 3))))
 (zy (sX 1000000 [] (zR (zb pj (zc 5) (zb zp (zc 0) (zc 3)))) pH)
 (oh 4))))))
def lI:List T->Option T:=yn ["brims","stall","pair","purse","pairs","given","got"] 3 XS
def XN:Sm:=
 (zy (zN 3 (i8 (zb zp (zb zp (zc 0) (cS (.int 2))) (zc 2)) (some (cS (.int 2))) none))
 (zy (zN 4 (zb yQ (zb zp (zc 1) (cS (.int 0))) (zb zp (zc 3) (cS (.int 0)))))
 (zy (zN 5 (zb yQ (zb zp (zc 1) (cS (.int 1))) (zb zp (zc 3) (cS (.int 1)))))
 (zy (yG (vX (zR (zb yH (zc 4) (cS (.int 0)))) (zR (zb yH (zc 5) (cS (.int 0))))) (retS (cS .zl)) yF)
 (retS (tupS (ze (zD tH (ze (zc 4) (ze (zb zp (zb zp (zc 0) (cS (.int 0))) (cS (.int 0))) zq))) (ze (zD tH (ze (zc 5) (ze (zb zp (zb zp (zc 0) (cS (.int 0))) (cS (.int 1))) zq))) zq))))))))
def n6:List T->Option T:=yn ["floor","pair","way","coins","first","second"] 3 XN
def Wn:Sm:=
 (zy (zN 4 (zb zp (zc 1) (cS (.int 1))))
 (zy (zN 5 (zb wW (zb zp (zc 2) (zc 4)) (zb wo (zc 3) (zb zp (zc 1) (cS (.int 2))))))
 (zy (yG (zR (zb yH (zc 5) (cS (.int 0)))) (retS (cS .zl)) yF)
 (zy (zN 6 (zD tH (ze (zb yQ (zb zp (zc 2) (zb wW (cS (.int 1)) (zc 4))) (zb wo (zc 3) (zb zp (zc 1) (cS (.int 3))))) (ze (zb zp (zc 0) (zb wW (cS (.int 1)) (zc 4))) zq))))
 (zy (yG (zR (zb (zM false) (zc 4) (cS (.int 0)))) (retS (tupS (ze (zt 5) (ze (zt 6) zq)))) yF)
 (retS (tupS (ze (zt 6) (ze (zt 5) zq)))))))))
def pQ:List T->Option T:=yn ["brims","stall","pair","times","purse","left","got"] 4 Wn
def Wd:Sm:=
 (zy (yG (zR (zb yH (zc 1) (zD x9 (ze (zc 0) zq)))) (retS (zb yt (zb zp (zc 0) (zc 1)) (zb bG (cS (.int 10)) (cS (.int 40))))) yF)
 (retS (cS (.int 0))))
def xQ:List T->Option T:=yn ["_law_script","_law_k"] 2 Wd
def cg:Sm:=
 (zy (yG (zR (zb (zM false) (zb yt (zc 0) (cS (.int 5))) (cS (.int 1)))) (retS (zb wW (zb yt (zb xv (zc 0) (cS (.int 5))) (cS (.int 25))) (cS (.int 12)))) yF)
 (retS (zb wW (zb yt (zb yt (zb xv (zc 0) (cS (.int 5))) (cS (.int 25))) (cS (.int 7))) (cS (.int 3)))))
def rQ:List T->Option T:=yn ["_law_number"] 1 cg
def Wf:Sm:=
 (zy (zN 3 (zb yQ (zb zp (zc 1) (cS (.int 0))) (zb zp (zc 2) (cS (.int 2)))))
 (zy (zN 4 (zb yQ (zb zp (zc 1) (cS (.int 1))) (zb zp (zc 2) (cS (.int 3)))))
 (zy (yG (vX (zR (zb yH (zc 3) (cS (.int 0)))) (zR (zb yH (zc 4) (cS (.int 0))))) (retS (cS .zl)) yF)
 (retS (tupS (ze (zD tH (ze (zc 3) (ze (zb zp (zb zp (zc 0) (cS (.int 0))) (cS (.int 0))) zq))) (ze (zD tH (ze (zc 4) (ze (zb zp (zb zp (zc 0) (cS (.int 0))) (cS (.int 1))) zq))) zq)))))))
def nL:List T->Option T:=yn ["_law_floor_here","_law_pair","_law_way","_law_first","_law_second"] 3 Wf
def nc:Sm:=
 (zy (u7 8 (zD listS (ze (zb zp (zc 3) (rq (cS (.int 1)))) zq)))
 (zy (mJ 8 (zc 5) (zb wW (zb zp (zc 8) (zc 5)) (zc 6)))
 (zy (mJ 8 (zb wW (cS (.int 1)) (zc 5)) (zD tH (ze (zb yQ (zb zp (zc 8) (zb wW (cS (.int 1)) (zc 5))) (zc 7)) (ze (zb zp (zb zp (zc 0) (cS (.int 0))) (zb wW (cS (.int 1)) (zc 5))) zq))))
 (u_ 3 (zD s_ (ze (zc 8) zq))))))
def oZ:Sm:=
 (sX 1000000 [8] (tQ (zR (zb (zM false) (zc 4) (zc 1))) (zR (zb tL (zb zp (zb zp (zc 3) (rq (cS (.int 1)))) (zc 5)) (zc 6)))) nc)
def Wc:Sm:=
 (zy (u7 3 (wq (ze (zt 2) zq)))
 (zy (vj [4,5,6,7,8] (xB (zb zp (zc 0) (cS (.int 3)))) (vp 4 (yP (zK 4) (yP (zK 5) (yP (zK 6) (yP (zK 7) vS))))) oZ)
 (oh 3)))
def lL:List T->Option T:=yn ["_law_floor_here","_law_place_here","_law_pair","_law_found","_law_home","_law_purse","_law_give","_law_get","_law_coins_here"] 3 Wc
def eI:Sm:=
 (yG (tQ (zR (zb tL (zb zp (zc 1) (cS (.int 0))) (zc 2))) (zR (zb tL (zb zp (zc 1) (cS (.int 1))) (zc 3)))) (retS (cS (.bl true))) yF)
def Wb:Sm:=
 (zy (vj [2,3] (xB (zt 0)) (vp 2 (yP (zK 2) (yP (zK 3) vS))) eI)
 (retS (cS (.bl false))))
def nI:List T->Option T:=yn ["_law_border","_law_pair","_law_x","_law_y"] 2 Wb
def XX:Sm:=
 (retS (pK (instS "int" (zc 0)) (gO (instS "bool" (zc 0)))))
def nD:List T->Option T:=yn ["_law_found"] 1 XX
def Wh:Sm:=
 (retS (pK (zD jZ (ze (zt 0) zq)) (YA pj pj (zc 1) (zc 0) (zc 2))))
def jY:List T->Option T:=yn ["thing","least","most"] 3 Wh
def j7:Ev->Option T:=
 wu [none,some 1] (xB (zc 0)) (zK 0) uZ (zD nR (ze (zt 1) (ze (zt 0) zq)))
def Wj:Sm:=
 (retS (zD (oX λ bs=>bs.any id) (ze j7 zq)))
def nN:List T->Option T:=yn ["border","pair"] 2 Wj
def YD:Ev->Option T:=
 wu [none] (xB (zc 0)) (zK 0) uZ (tupS (ze (zb zp (zc 0) (cS (.int 0))) (ze (cS (.int 0)) (ze (zb zp (zc 0) (cS (.int 1))) zq))))
def YC:Ev->Option T:=
 wu [none] (xB (zc 1)) (zK 0) uZ (tupS (ze (zb zp (zc 0) (cS (.int 0))) (ze (cS (.int 1)) (ze (zb zp (zc 0) (cS (.int 1))) zq))))
def jE:Sm:=
 (zy (ZY 3 (zc 6) (zD tH (ze (zc 7) (ze (Z_ 3 (zc 6) (zt 7)) zq))))
 (yG (zR (zb (zM false) (f_ 3) (cS (.int 2)))) (u_ 4 (tupS (ze (zt 5) (ze (zD mH (ze (ea 3 (cS (.int 0))) (ze (ea 3 (cS (.int 1))) zq))) zq)))) yF))
def Wo:Sm:=
 (zy (zN 2 (zb yQ YD YC))
 (zy (ZZ 3)
 (zy (u7 4 (wq zq))
 (zy (vj [5,6,7] (xB (zD pX (ze (zc 2) zq))) (vp 3 (yP (zK 5) (yP (zK 6) (yP (zK 7) vS)))) jE)
 (fM 4 (retS (zD rP (ze (zt 4) zq))))))))
def lP:List T->Option T:=yn ["border","other","steps","lows","shared","first","side","second"] 2 Wo
def Wk:Sm:=
 (retS (zD rP (ze (zb yQ (zD listS (ze (zc 0) zq)) (zD listS (ze (zc 1) zq))) zq)))
def lM:List T->Option T:=yn ["border","other"] 2 Wk
def j8:Ev->Option T:=
 wu [none,some 1] (xB (zc 2)) (zK 0) uZ (tupS (ze (zD mH (ze (cS (.int 0)) (ze (zb wW (zb zp (zc 0) (cS (.int 0))) (zb zp (zc 1) (cS (.int 2)))) zq))) (ze (zD mH (ze (cS (.int 0)) (ze (zb wW (zb zp (zc 0) (cS (.int 1))) (zb zp (zc 1) (cS (.int 3)))) zq))) zq)))
def jy:Ev->Option T:=
 wu [none,some 0] (xB (zc 3)) (zK 0) (xS (zD nR (ze (zt 1) (ze (zt 0) zq)))) (zt 0)
def Wt:Sm:=
 (zy (zN 3 j8)
 (retS (zD rP (ze jy zq))))
def lS:List T->Option T:=yn ["brims","way","border","pairs"] 3 Wt
def We:Sm:=
 (zy (zN 2 (zD xQ (ze (zt 0) (ze (cS (.int 1)) zq))))
 (zy (zN 3 (wq (ze (zb zp (wq (ze (cS (.int 3)) (ze (cS (.int 2)) (ze (cS (.int 4)) (ze (cS (.int 1)) (ze (cS (.int 5)) (ze (cS (.int 2)) (ze (cS (.int 3)) (ze (cS (.int 0)) zq))))))))) (zb yt (zc 2) (cS (.int 8)))) (ze (zb zp (wq (ze (cS (.int 2)) (ze (cS (.int 3)) (ze (cS (.int 1)) (ze (cS (.int 4)) (ze (cS (.int 2)) (ze (cS (.int 5)) (ze (cS (.int 3)) (ze (cS (.int 0)) zq))))))))) (zb yt (zb xv (zc 2) (cS (.int 8))) (cS (.int 8)))) zq))))
 (zy (yG (zR (zb jg (zc 1) (cS (.int 4)))) (retS (tupS (ze (zD tH (ze (zb zp (zc 3) (cS (.int 0))) (ze (cS (.int 2)) zq))) (ze (zD tH (ze (zb zp (zc 3) (cS (.int 1))) (ze (cS (.int 2)) zq))) zq)))) yF)
 (zy (yG (zR (zb (zM false) (zb yt (zb xv (zc 2) (cS (.int 64))) (cS (.int 10))) (cS (.int 1)))) (retS (tupS (ze (cS (.int 12)) (ze (zb yt (zb zp (zc 3) (cS (.int 1))) (cS (.int 3))) zq)))) yF)
 (zy (yG (zR (zb (zM false) (zb yt (zb xv (zc 2) (cS (.int 64))) (cS (.int 10))) (cS (.int 2)))) (retS (tupS (ze (zb yt (zb zp (zc 3) (cS (.int 0))) (cS (.int 3))) (ze (cS (.int 12)) zq)))) yF)
 (zy (yG (tQ (zR (zb (zM false) (zb yt (zb xv (zc 2) (cS (.int 64))) (cS (.int 10))) (cS (.int 3)))) (zR (zb yH (zc 1) (cS (.int 3))))) (retS (tupS (ze (cS (.int 12)) (ze (cS (.int 12)) zq)))) yF)
 (retS (zD s_ (ze (zc 3) zq)))))))))
def nK:List T->Option T:=yn ["_law_script","_law_many","_law_number","_law_found"] 2 We
def jD:Sm:=
 (zy (u_ 3 (zb zp (wq (ze (cS (.str "keeper")) (ze (cS (.str "taker")) zq))) (zb yt (zc 2) (cS (.int 2)))))
 (zN 2 (zb xv (zc 2) (cS (.int 2)))))
def Wa:Sm:=
 (zy (zN 2 (zD xQ (ze (zt 0) (ze (cS (.int 2)) zq))))
 (zy (u7 3 (wq zq))
 (zy (vj [4] (uw sa (ze (zc 1) zq)) (zK 4) jD)
 (retS (zD s_ (ze (zc 3) zq))))))
def nH:List T->Option T:=yn ["_law_script","_law_many","_law_number","_law_found","_law_place_here"] 2 Wa
def o_:Sm:=
 (zy (zN 8 (zb yQ (zb wo (zc 3) (zc 5)) (zc 7)))
 (zy (zN 9 (zb yt (zb yQ (zb yQ (zb wo (zD xQ (ze (zt 0) (ze (zb yQ (cS (.int 4)) (zc 8)) zq))) (cS (.int 2957))) (zb wo (cS (.int 61)) (zc 8))) (cS (.int 17))) (cS (.int 999983))))
 (zy (zN 10 (zb xv (zc 9) (cS (.int 8))))
 (u_ 4 (tupS (ze (zt 5) (ze (zb yt (zb yt (zc 9) (cS (.int 8))) (zc 1)) (ze (zD rQ (ze (zt 10) zq)) (ze (zD rQ (ze (zb xv (zc 10) (cS (.int 125))) zq)) zq)))))))))
def jB:Sm:=
 (zy (zN 6 (zb yQ (cS (.int 1)) (zb yt (zc 2) (cS (.int 3)))))
 (zy (yG (tQ (zR (zb yH (zc 1) (cS (.int 3)))) (zR (zb (zM false) (zb yt (zb xv (zc 2) (cS (.int 3))) (cS (.int 8))) (cS (.int 1))))) (zN 6 (zb yQ (cS (.int 9)) (zc 6))) yF)
 (zy (vj [7,8,9,10] (uw sa (ze (zc 6) zq)) (zK 7) o_)
 (zN 2 (zb xv (zc 2) (cS (.int 24)))))))
def XY:Sm:=
 (zy (zN 2 (zD xQ (ze (zt 0) (ze (cS (.int 3)) zq))))
 (zy (zN 3 (zb zp (wq (ze (cS (.int 3)) (ze (cS (.int 12)) zq))) (zD f7 (ze (zb yH (zc 1) (cS (.int 3))) zq))))
 (zy (u7 4 (wq zq))
 (zy (vj [5,6,7,8,9,10] (uw sa (ze (zc 1) zq)) (zK 5) jB)
 (retS (zD s_ (ze (zD qO (ze (zc 4) zq)) zq)))))))
def nE:List T->Option T:=yn ["_law_script","_law_many","_law_number","_law_wide","_law_found","_law_place_here","_law_size","_law_k","_law_at","_law_drawn","_law_rest"] 2 XY
def lA:Sm:=
 (zy (zN 4 (zb yt (zb yQ (zb yQ (zb wo (zD xQ (ze (zt 0) (ze (zb yQ (cS (.int 28)) (zc 3)) zq))) (cS (.int 3571))) (zb wo (cS (.int 29)) (zc 3))) (cS (.int 5))) (cS (.int 999979))))
 (yG (tQ (zR (zb (zM false) (zb zp (zc 1) (zc 3)) (cS (.str "keeper")))) (zR (zb (zM false) (zb yt (zc 4) (cS (.int 3))) (cS (.int 1))))) (zy (zN 5 (zb xv (zc 4) (cS (.int 6))))
 (zy (zN 6 (zb yQ (cS (.int 1)) (zb zp (wq (ze (zb yt (zc 5) (cS (.int 3))) (ze (zb yt (zc 5) (cS (.int 3))) (ze (zb yt (zc 5) (cS (.int 12))) zq)))) (zb yt (zb xv (zc 5) (cS (.int 12))) (cS (.int 3))))))
 (zy (zN 7 (zb zp (wq (ze (zb yt (zb xv (zc 5) (cS (.int 36))) (cS (.int 4))) (ze (zb yt (zb xv (zc 5) (cS (.int 36))) (cS (.int 4))) (ze (zb yt (zb xv (zc 5) (cS (.int 36))) (cS (.int 13))) zq)))) (zb yt (zb xv (zc 5) (cS (.int 468))) (cS (.int 3)))))
 (u_ 2 (tupS (ze (zt 3) (ze (zb yt (zb xv (zc 4) (cS (.int 3))) (cS (.int 2))) (ze (zt 6) (ze (zt 7) zq))))))))) yF))
def XZ:Sm:=
 (zy (u7 2 (wq zq))
 (zy (vj [3,4,5,6,7] (uw sa (ze (zD x9 (ze (zc 1) zq)) zq)) (zK 3) lA)
 (retS (zD s_ (ze (zc 2) zq)))))
def nF:List T->Option T:=yn ["_law_script","_law_owners_here","_law_found","_law_place_here","_law_drawn","_law_rest","_law_give","_law_get"] 2 XZ
def d_:Sm:=
 (zy (zN 4 (zD nL (ze (zt 0) (ze (zt 2) (ze (zt 3) zq)))))
 (retS (pK (zb (wC true) (zc 4) (cS .zl)) (zD nI (ze (zb zp (zc 1) (zb zp (zc 3) (cS (.int 1)))) (ze (zt 4) zq))))))
def qH:List T->Option T:=yn ["_law_floor_here","_law_told","_law_pair","_law_way","_law_behind_here"] 4 d_
def Wm:Sm:=
 (yG (uW (xS (zD jY (ze (zt 1) (ze (cS (.int 0)) (ze (zb wW (zD rO (ze (zt 0) zq)) (cS (.int 1))) zq)))))) aD yF)
def lO:List T->Option T:=yn ["floor","place"] 2 Wm
def jF:Sm:=
 (zN 1 (zD lM (ze (zt 1) (ze (zt 2) zq))))
def Wr:Sm:=
 (zy (zN 1 (tupS zq))
 (zy (vj [2] (xB (zt 0)) (zK 2) jF)
 (retS (zt 1))))
def lQ:List T->Option T:=yn ["borders","joined","border"] 1 Wr
def jG:Sm:=
 (zN 1 (zD lP (ze (zt 1) (ze (zt 2) zq))))
def Ws:Sm:=
 (zy (zN 1 (tupS (ze (tupS (ze (cS (.int 0)) (ze (cS (.int 0)) zq))) zq)))
 (zy (vj [2] (xB (zt 0)) (zK 2) jG)
 (retS (zt 1))))
def lR:List T->Option T:=yn ["borders","joined","border"] 1 Ws
def dY:Sm:=
 (zy (zN 4 (zD n6 (ze (zt 0) (ze (zt 1) (ze (zt 2) zq)))))
 (retS (pK (zb (wC true) (zc 4) (cS .zl)) (zD nN (ze (zb zp (zc 3) (zb zp (zb zp (zb zp (zc 0) (cS (.int 2))) (zc 2)) (cS (.int 1)))) (ze (zt 4) zq))))))
def nC:List T->Option T:=yn ["floor","pair","way","held","behind"] 4 dY
def cf:Sm:=
 (zy (zN 1 (zD xQ (ze (zt 0) (ze (cS (.int 0)) zq))))
 (zy (zN 2 (zb zp (wq (ze (cS (.int 2)) (ze (cS (.int 3)) (ze (cS (.int 1)) (ze (cS (.int 4)) (ze (cS (.int 3)) (ze (cS (.int 2)) (ze (cS (.int 4)) (ze (zb yQ (cS (.int 5)) (zb yt (zb xv (zc 1) (cS (.int 8))) (cS (.int 4)))) zq))))))))) (zb yt (zc 1) (cS (.int 8)))))
 (zy (zN 3 (zD nH (ze (zt 0) (ze (zt 2) zq))))
 (zy (zN 4 (zD nK (ze (zt 0) (ze (zt 2) zq))))
 (zy (zN 5 (zD nE (ze (zt 0) (ze (zt 2) zq))))
 (zy (zN 6 (zD nF (ze (zt 0) (ze (zt 3) zq))))
 (zy (yG (tQ (zR (zb (zM false) (zc 4) (tupS (ze (cS (.int 12)) (ze (cS (.int 12)) zq))))) (vX (zR (zb jg (zD x9 (ze (zc 5) zq)) (cS (.int 6)))) (zR (zb jg (zD x9 (ze (zc 6) zq)) (cS (.int 0)))))) (zN 4 (tupS (ze (cS (.int 12)) (ze (cS (.int 3)) zq)))) yF)
 (retS (tupS (ze (zt 4) (ze (zt 3) (ze (zt 5) (ze (zt 6) zq)))))))))))))
def nJ:List T->Option T:=yn ["_law_script","_law_number","_law_many","_law_owners_here","_law_brims_here","_law_ways_here","_law_stalls_here"] 1 cf
def X_:Sm:=
 (zy (yG (vX (uW (xS (instS "tuple" (zc 4)))) (vX (zR (zb (zM true) (zD x9 (ze (zc 4) zq)) (cS (.int 3)))) (vX (uW (xS (instS "tuple" (zb zp (zc 4) (cS (.int 0)))))) (zR (zb (zM true) (zb zp (zc 4) (cS (.int 0))) (zc 3)))))) (retS (cS (.bl false))) yF)
 (zy (cB (i8 (zc 4) (some (cS (.int 1))) none) (vp 2 (yP (zK 5) (yP (zK 6) vS))))
 (zy (zN 7 (zD lL (ze (zt 0) (ze (zt 2) (ze (zt 3) zq)))))
 (zy (yG (vX (uW (xS (zD nD (ze (zt 5) zq)))) (vX (zR (zb yH (zc 5) (cS (.int 0)))) (zR (zb tL (zc 5) (zD x9 (ze (zc 7) zq)))))) (retS (cS (.bl false))) yF)
 (zy (yG (vX (uW (xS (zD nD (ze (zt 6) zq)))) (vX (zR (zb yH (zc 6) (cS (.int 0)))) (vX (zR (zb tL (zc 6) (zD x9 (ze (zb zp (zc 0) (cS (.int 2))) zq)))) (zR (zb (zM true) (zb zp (zb zp (zb zp (zc 0) (cS (.int 2))) (zc 6)) (cS (.int 0))) (zc 2)))))) (retS (cS (.bl false))) yF)
 (retS (zD qH (ze (zt 0) (ze (zt 1) (ze (zb zp (zc 7) (zc 5)) (ze (zb zp (zb zp (zc 0) (cS (.int 2))) (zc 6)) zq)))))))))))
def lK:List T->Option T:=yn ["_law_floor_here","_law_told","_law_place_here","_law_pair","_law_row_here","_law_times","_law_number","_law_some"] 5 X_
def jz:Ev->Option T:=
 wu [none,none,some 1] (uw qy (ze (zb zp (zc 0) (cS (.int 2))) zq)) (vp 2 (yP (zK 0) (yP (zK 1) vS))) (zR (zb (zM false) (zb zp (zc 1) (cS (.int 0))) (zc 2))) (zt 0)
def XJ:Sm:=
 (zy (fZ (zD lO (ze (zt 0) (ze (zt 1) zq))))
 (retS jz))
def qG:List T->Option T:=yn ["floor","place"] 2 XJ
def l8:Sm:=
 (yG (zR (zb (zM false) (zb zp (zc 2) (cS (.int 0))) (zc 1))) (retS (zt 2)) yF)
def XO:Sm:=
 (zy (fZ (zD lO (ze (zt 0) (ze (zt 1) zq))))
 (zy (vj [2] (xB (zb zp (zc 0) (cS (.int 3)))) (zK 2) l8)
 (retS (cS .zl))))
def sV:List T->Option T:=yn ["floor","place","stall"] 2 XO
def l7:Ev->Option T:=
 wu [none,some 2] (xB (zb zp (zc 0) (cS (.int 2)))) (zK 0) (zR (zb (zM false) (zb zp (zc 0) (cS (.int 0))) (zc 1))) (zt 0)
def jw:Ev->Option T:=
 wu [none,some 0,some 1,some 6] (xB (zc 5)) (zK 0) uZ (zD qH (ze (zt 1) (ze (zt 2) (ze (zt 3) (ze (zt 0) zq)))))
def lB:Sm:=
 (yG (uW (xS (zD (oX λ bs=>bs.all id) (ze jw zq)))) (retS (cS (.bl false))) yF)
def l4:Ev->Option T:=
 wu [none,some 0,some 1,some 2,some 4,some 3] (uw sa (ze (zD x9 (ze (zc 4) zq)) zq)) (zK 0) uZ (zD lK (ze (zt 1) (ze (zt 2) (ze (zt 3) (ze (zb zp (zc 4) (zc 0)) (ze (zb zp (zc 5) (zc 0)) zq))))))
def dZ:Sm:=
 (zy (zN 4 (zb zp (zc 1) (zc 2)))
 (zy (yG (uW (xS (instS "tuple" (zc 3)))) (retS (cS (.bl false))) yF)
 (zy (yG (zR (zb (zM false) (zb zp (zb zp (zc 0) (cS (.int 1))) (zc 2)) (cS (.str "taker")))) (zy (zN 5 l7)
 (zy (vj [6] (xB (zt 4)) (zK 6) lB)
 (retS (zb (zM false) (zc 3) (tupS zq))))) yF)
 (zy (yG (zR (zb (zM true) (zD x9 (ze (zc 3) zq)) (zD x9 (ze (zc 4) zq)))) (retS (cS (.bl false))) yF)
 (retS (zD (oX λ bs=>bs.all id) (ze l4 zq)))))))
def nG:List T->Option T:=yn ["_law_floor_here","_law_told","_law_place_here","_law_rows","_law_border","_law_ways_here","_law_pair"] 4 dZ
def jH:Sm:=
 (fT 4 (zD lI (ze (zb zp (zc 0) (cS (.int 0))) (ze (zt 3) (ze (zt 5) zq)))))
def cj:Sm:=
 (zy (zN 3 (zD sV (ze (zt 0) (ze (zt 1) zq))))
 (zy (yG (zR (zb (wC false) (zc 3) (cS .zl))) (retS (zt 2)) yF)
 (zy (u7 4 (wq zq))
 (zy (vj [5] (xB (zt 2)) (zK 5) jH)
 (fM 4 (retS (zD rP (ze (zt 4) zq))))))))
def nQ:List T->Option T:=yn ["floor","place","border","stall","pairs","pair"] 3 cj
def ic:Sm:=
 (zy (yG (zR (zb (zM false) (zc 3) (cS (.int 0)))) (retS (tupS (ze (zb zp (zc 2) (cS (.int 0))) (ze (zb zp (zc 2) (cS (.int 1))) zq)))) yF)
 (zy (zN 4 (zD sV (ze (zt 0) (ze (zt 1) zq))))
 (zy (yG (zR (zb (wC false) (zc 4) (cS .zl))) (retS (cS .zl)) yF)
 (retS (zD pQ (ze (zb zp (zc 0) (cS (.int 0))) (ze (zt 4) (ze (zt 2) (ze (zt 3) zq)))))))))
def pR:List T->Option T:=yn ["floor","place","pair","times","stall"] 4 ic
def j5:Ev->Option T:=
 wu [none,some 0] (xB (zD qG (ze (zt 0) (ze (zt 1) zq)))) (zK 0) uZ (zb zp (zb zp (zc 1) (cS (.int 2))) (zc 0))
def jv:Ev->Option T:=
 wu [none,some 0,some 2] (xB (zc 3)) (zK 0) uZ (zD lS (ze (zb zp (zc 1) (cS (.int 0))) (ze (zt 0) (ze (zb zp (zc 2) (zb zp (zc 0) (cS (.int 1)))) zq))))
def XU:Sm:=
 (zy (zN 3 j5)
 (zy (zN 4 jv)
 (zy (yG (zR (zb (zM false) (zb zp (zb zp (zc 0) (cS (.int 1))) (zc 1)) (cS (.str "keeper")))) (retS (zD nQ (ze (zt 0) (ze (zt 1) (ze (zD lQ (ze (zt 4) zq)) zq))))) yF)
 (retS (zD lR (ze (zt 4) zq))))))
def lJ:List T->Option T:=yn ["floor","place","last","ways","ahead"] 3 XU
def pJ:Sm:=
 (yG (xS (zD nC (ze (zt 0) (ze (zt 6) (ze (zt 7) (ze (zt 3) zq)))))) (retS (tupS (ze (zt 5) (ze (zt 7) zq)))) yF)
def qB:Sm:=
 (zy (vj [7] (xB (zt 4)) (zK 7) pJ)
 (zy (zN 5 (zb yQ (zc 5) (cS (.int 1))))
 (zN 6 (zD pR (ze (zt 0) (ze (zt 1) (ze (zt 2) (ze (zt 5) zq))))))))
def Wl:Sm:=
 (zy (zN 4 (zD qG (ze (zt 0) (ze (zt 1) zq))))
 (zy (zN 5 (cS (.int 0)))
 (zy (zN 6 (zt 2))
 (zy (sX 1000000 [7] (zR (zb (wC true) (zc 6) (cS .zl))) qB)
 (retS (cS .zl))))))
def lN:List T->Option T:=yn ["floor","place","pair","held","ways","times","ready","way"] 4 Wl
def j4:Ev->Option T:=
 wu [none,some 2] (xB (zb zp (zc 0) (cS (.int 2)))) (zK 0) (zR (zb (oI false) (zb zp (zc 0) (cS (.int 1))) (zc 1))) (zb zp (zc 0) (cS (.int 0)))
def jC:Sm:=
 (mJ 3 (zc 4) (zD lJ (ze (zt 0) (ze (zt 4) (ze (zt 1) zq)))))
def XT:Sm:=
 (zy (u7 3 (zD listS (ze (zc 1) zq)))
 (zy (vj [4] (xB (zD qO (ze j4 zq))) (zK 4) jC)
 (oh 3)))
def nB:List T->Option T:=yn ["floor","last","fresh","following","place"] 3 XT
def l5:Ev->Option T:=
 wu [none,some 0,some 1,some 2] (xB (zb zp (zc 2) (zc 1))) (zK 0) uZ (zb yQ (tupS (ze (zt 0) zq)) (zD lN (ze (zt 1) (ze (zt 2) (ze (zt 0) (ze (zt 3) zq))))))
def dX:Sm:=
 (zy (yG (zR (zb (zM true) (zb zp (zb zp (zc 0) (cS (.int 1))) (zc 1)) (cS (.str "keeper")))) (retS (tupS zq)) yF)
 (retS (zD s_ (ze l5 zq))))
def n9:List T->Option T:=yn ["floor","place","held"] 3 dX
def l6:Ev->Option T:=
 wu [none,none,some 3] (uw qy (ze (zc 4) zq)) (vp 2 (yP (zK 0) (yP (zK 1) vS))) (zR (zb (zM true) (zc 1) (zb zp (zc 2) (zc 0)))) (zt 0)
def sN:Sm:=
 (zy (zN 3 (zb zp (zc 1) (rq (cS (.int 1)))))
 (zy (zN 4 (zD nB (ze (zt 0) (ze (zt 3) (ze (zt 2) zq)))))
 (zy (zN 2 l6)
 (yG (xS (zc 2)) (u_ 1 (zt 4)) yF))))
def XQ:Sm:=
 (zy (u7 1 (wq (ze (zb wo (wq (ze (tupS (ze (tupS (ze (cS (.int 0)) (ze (cS (.int 0)) zq))) zq)) zq)) (zD rO (ze (zt 0) zq))) zq)))
 (zy (zN 2 (zD mI (ze (zD rO (ze (zt 0) zq)) zq)))
 (zy (sX 1000000 [3,4] (xS (zc 2)) sN)
 (oh 1))))
def nA:List T->Option T:=yn ["floor","told","fresh","last","following"] 1 XQ
def Wq:Sm:=
 (retS (zb zp (zD nA (ze (zt 0) zq)) (rq (cS (.int 1)))))
def qI:List T->Option T:=yn ["floor"] 1 Wq
def j0:Ev->Option T:=
 wu [none,some 0,some 1] (uw sa (ze (zD rO (ze (zt 0) zq)) zq)) (zK 0) uZ (zD n9 (ze (zt 1) (ze (zt 0) (ze (zt 2) zq))))
def XM:Sm:=
 (zy (zN 1 (zD qI (ze (zt 0) zq)))
 (retS j0))
def n5:List T->Option T:=yn ["floor","held"] 1 XM
def j6:Ev->Option T:=
 wu [none,some 1,some 2,some 3] (uw sa (ze (zD x9 (ze (zc 3) zq)) zq)) (zK 0) uZ (zD nG (ze (zt 1) (ze (zt 2) (ze (zt 0) (ze (zb zp (zc 3) (zc 0)) zq)))))
def Wg:Sm:=
 (zy (zN 1 (zD nJ (ze (zt 0) zq)))
 (zy (zN 2 (zD qI (ze (zt 1) zq)))
 (zy (u7 3 (zD n5 (ze (zt 1) zq)))
 (zy (yG (vX (uW (xS (instS "list" (zc 3)))) (zR (zb (zM true) (zD x9 (ze (zc 3) zq)) (zD x9 (ze (zb zp (zc 1) (cS (.int 1))) zq))))) (retS (cS (.bl false))) yF)
 (zy (yG (uW (xS (zD (oX λ bs=>bs.all id) (ze j6 zq)))) (retS (cS (.bl false))) yF)
 (zy (zN 4 (zD listS (ze (zc 3) zq)))
 (zy (mJ 3 (cS (.int 0)) (tupS zq))
 (retS (zb (zM false) (zD n5 (ze (zt 1) zq)) (zc 4))))))))))
def nM:List T->Option T:=yn ["_law_script","_law_floor_here","_law_told","_law_found","_law_kept"] 1 Wg
end yE
namespace yE
open PySem L2 L3 L5
theorem Vy (ps:List (Int×Int)) (h:ps.length<64):pX [.lst (ps.map zo)]=some (.lst ((rf ps).map zo)):=by
 show (xH (ps.map zo)).bind _=_;rw[VT,Option.bind_some,if_pos ⟨by simpa using h,λ r hr=>by obtain⟨p,_,rfl⟩:=List.mem_map.mp hr;simp[uk]⟩,<- cK,List.map_map];rfl
noncomputable def cell (ns:List Int) (k:Nat):Int:=if k<ns.length then ns.getD k 0%10 ^ 40 else 0
theorem nP (ns:List Int) (k:Nat):xQ [yv ns,.int (k:Int)]=some (.int (cell ns k)):=by
 unfold xQ Wd cell yv;by_cases h:k<ns.length
 .have e:L2.yh (ns.map T.int) (k:Int)=some (.int (ns.getD k 0)):=wQ (by simp[h]);simp[h,e,pT,yH]
 .simp[h,yH]
theorem N9 (b:T) (ps:List (Int×Int)) (q:Int×Int) (hb:wX b=some (ps.map zo)):nI [b,zo q]=some (.bl (zZ ps q)):=by
 have h:=g_ (is:=[2,3]) (g:=vp 2 (yP (zK 2) (yP (zK 3) vS))) (b:=eI) zo (wM q) (.bl true) [some (.im b),some (.im (zo q)),none,none] ps [some (.im b),some (.im (zo q)),none,none] (by simp) λ p hp=>⟨[some (.im b),some (.im (zo q)),some (.im (.int p.1)),some (.im (.int p.2))],by simp,by
  by_cases h1:p.1<=q.1 <;> by_cases h2:p.2<=q.2 <;> simp[turn,eI,zo,wM,h1,h2]⟩
 unfold nI Wb;simp only[vj,xB,zt,yn,zy,qN] at h ⊢;simp[hb,h];unfold zZ;cases ps.any (wM q) <;> simp
theorem QR {qs p:List (Int×Int)}{x:Int×Int}(hr:∀ r,qs++xm r (qs.getLast?.map (·.2))=xm (p++r) none) (hb:sM (qs.getLast?.map (·.2)) x.2=true) (r:List (Int×Int)):
  (qs++[x])++xm r ((qs++[x]).getLast?.map (·.2))=xm (p++[x]++r) none:=by
 have:=hr (x::r);rw[show xm (x::r) (qs.getLast?.map (·.2))=x::xm r (some x.2) by rw[xm,if_pos hb]] at this;simpa using this
theorem QS {qs p:List (Int×Int)}{x:Int×Int}(hr:∀ r,qs++xm r (qs.getLast?.map (·.2))=xm (p++r) none) (hb:sM (qs.getLast?.map (·.2)) x.2=false) (r:List (Int×Int)):
  qs++xm r (qs.getLast?.map (·.2))=xm (p++[x]++r) none:=by
 have:=hr (x::r);rw[show xm (x::r) (qs.getLast?.map (·.2))=xm r (qs.getLast?.map (·.2)) by rw[xm,if_neg (by rw[hb];nofun)]] at this;simpa using this
theorem jX (ps:List (Int×Int)) (hl:ps.length<64):rP [.lst (ps.map zo)]=some (.tup ((vG ps).map zo)):=by
 obtain⟨ρ',h1,qs,h2,h3,h4⟩:=tI (is:=[2]) (g:=zK 2) (b:=l9) zo (λ p ρ=>∃ qs:List (Int×Int),ρ=[some (.im (.lst (ps.map zo))),some (.own (.lst (qs.map zo))),none]/\qs.length<=p.length/\
   ∀ r,qs++xm r (qs.getLast?.map (·.2))=xm (p++r) none) (rf ps) [some (.im (.lst (ps.map zo))),some (.own (.lst [])),none] ⟨[],by simp,by simp,λ r=>by simp⟩ (by
  rintro p x q e ρ ⟨qs,rfl,hq,hr⟩;have hlen:p.length<64:=by
   have:=congrArg List.length e;rw[(i7 ps).length_eq] at this;simp at this;omega
  have app:sM (qs.getLast?.map (·.2)) x.2=true->∃ qs':List (Int×Int),yU [2] [some (.im (.lst (ps.map zo))),some (.own (.lst (qs.map zo++[zo x]))),some (.im (zo x))]=[some (.im (.lst (ps.map zo))),some (.own (.lst (qs'.map zo))),none]/\qs'.length<=(p++[x]).length/\∀ r,qs'++xm r (qs'.getLast?.map (·.2))=xm (p++[x]++r) none:=λ hb=>
   ⟨qs++[x],by simp,by simp;omega,QR hr hb⟩
  rcases List.eq_nil_or_concat qs with rfl | ⟨init,l,rfl⟩
  .refine⟨_,?_,app (by simp[sM])⟩;simp[turn,l9]
  .simp only[List.concat_eq_append] at *;by_cases hb:x.2<l.2
   .refine⟨_,?_,app (by simp[sM,hb])⟩;simp at hq;simp[turn,l9,zo,hb,yH];omega
   .refine⟨[some (.im (.lst (ps.map zo))),some (.own (.lst ((init++[l]).map zo))),some (.im (zo x))],?_,init++[l],by simp,by simp at hq ⊢;omega,QS hr (by simp[sM];omega)⟩;simp[turn,l9,zo,hb,yH])
 have h5:=h4 [];simp[xm] at h5;unfold rP XW;simp[Vy ps hl,h1,h2,h5,vG]
theorem ND (b o:List (Int×Int)) (hl:b.length+o.length<64):lM [.tup (b.map zo),.tup (o.map zo)]=some (.tup ((vG (b++o)).map zo)):=by
 have h:=jX (b++o) (by simpa using hl);rw[List.map_append] at h;have:b.length+o.length<=16777216:=by omega
 unfold lM Wk;simp[h,this]
end yE
namespace yE
open PySem L2 L3 L5
noncomputable def r0 (p:Int×Int):List Int:=[p.1,0,p.2]
noncomputable def r1 (p:Int×Int):List Int:=[p.1,1,p.2]
noncomputable def xJ (l:Option Int) (v:Int):Int:=match l with
 | none=>v
 | some m=>if m<v then m else v
noncomputable def uI (l:Option Int) (sh:List (Int×Int)) (f:Int->Int×Int):List (Int×Int):=match l with
 | some m=>sh++[f m]
 | none=>sh
structure Sw (b o:List (Int×Int)) (p:List (List Int)) (l0 l1:Option Int) (sh:List (Int×Int)):Prop where
 gX:∀ x,r0 x∈p->∃ m,l0=some m/\m<=x.2
 gW:∀ x,r1 x∈p->∃ m,l1=some m/\m<=x.2
 eL:∀ m,l0=some m->∃ x,r0 x∈p/\x.2=m
 eK:∀ m,l1=some m->∃ x,r1 x∈p/\x.2=m
 len:sh.length<=p.length
 snd:∀ s∈sh,(∃ x,r0 x∈p/\x.1<=s.1/\x.2<=s.2)/\∃ x,r1 x∈p/\x.1<=s.1/\x.2<=s.2
 all:∀ x y,r0 x∈p->r1 y∈p->∃ s∈sh,(s.1<=x.1\/s.1<=y.1)/\(s.2<=x.2\/s.2<=y.2)
theorem kD {x y:Int×Int}(h:r0 x=r0 y):x=y:=by
 unfold r0 at h;injection h with h1 h2;injection h2 with _ h2;injection h2 with h2 _;exact Prod.ext h1 h2
theorem kC {x y:Int×Int}(h:r1 x=r1 y):x=y:=by
 unfold r1 at h;injection h with h1 h2;injection h2 with _ h2;injection h2 with h2 _;exact Prod.ext h1 h2
theorem om {x y:Int×Int}(h:r0 x=r1 y):False:=by
 unfold r0 r1 at h;injection h with h1 h2;injection h2 with h2 _;omega
theorem su {p:List (List Int)}{a x:List Int}(h:a∈p++[x]):a∈p\/a=x:=by simpa using h
theorem Sw.Vp {b o:List (Int×Int)}{p:List (List Int)}{l0 l1:Option Int}{sh:List (Int×Int)}(h:Sw b o p l0 l1 sh) (x:Int×Int) (hx:∀ y,r0 y∈p->y.1<=x.1) (hy:∀ y,r1 y∈p->y.1<=x.1):
  Sw b o (p++[r0 x]) (some (xJ l0 x.2)) l1 (uI l1 sh λ m=>(x.1,if m>xJ l0 x.2 then m else xJ l0 x.2)):=by
 have lo:xJ l0 x.2<=x.2/\∀ m,l0=some m->xJ l0 x.2<=m:=by
  unfold xJ;cases l0 with
  | none=>exact⟨Int.le_refl _,nofun⟩
  | some m=>dsimp only;split <;> refine⟨by omega,λ m' e=>?_⟩ <;> cases e <;> omega
 have la:∃ y,r0 y∈p++[r0 x]/\y.2=xJ l0 x.2:=by
  unfold xJ;cases l0 with
  | none=>exact⟨x,by simp,rfl⟩
  | some m=>
   dsimp only;split
   .obtain⟨y,h1,h2⟩:=h.eL m rfl;exact⟨y,by simp[h1],h2⟩
   .exact⟨x,by simp,rfl⟩
 have snd':∀ s∈sh,(∃ x',r0 x'∈p++[r0 x]/\x'.1<=s.1/\x'.2<=s.2)/\∃ x',r1 x'∈p++[r0 x]/\x'.1<=s.1/\x'.2<=s.2:=λ s hs=>by
  obtain⟨⟨a,a1,a2⟩,c,c1,c2⟩:=h.snd s hs;exact⟨⟨a,by simp[a1],a2⟩,c,by simp[c1],c2⟩
 refine⟨λ y hm=>?_,λ y hm=>?_,λ m e=>?_,λ m e=>?_,?_,λ s hs=>?_,λ y z hm hz=>?_⟩
 .rcases su hm with q | q
  .obtain⟨m,e,q2⟩:=h.gX y q;exact⟨_,rfl,by have:=lo.2 m e;omega⟩
  .cases kD q;exact⟨_,rfl,lo.1⟩
 .rcases su hm with q | q
  .exact h.gW y q
  .exact (om q.symm).elim
 .cases e;exact la
 .obtain⟨y,q1,q2⟩:=h.eK m e;exact⟨y,by simp[q1],q2⟩
 .have:=h.len;cases l1 <;> simp[uI] <;> omega
 .cases l1 with
  | none=>exact snd' s hs
  | some m=>
   rcases List.mem_append.mp hs with q | q
   .exact snd' s q
   .obtain rfl:s=_:=by simpa using q
    obtain⟨y,y1,y2⟩:=la;obtain⟨z,z1,z2⟩:=h.eK m rfl;have hzx:=hy z z1;refine⟨⟨y,y1,?_,by dsimp only;split <;> omega⟩,z,by simp[z1],hzx,by dsimp only;split <;> omega⟩;rcases su y1 with w | w
    .exact hx y w
    .cases kD w;exact Int.le_refl _
 .have hz':r1 z∈p:=by
   rcases su hz with q | q
   .exact q
   .exact (om q.symm).elim
  rcases su hm with q | q
  .obtain⟨s,s1,s2⟩:=h.all y z q hz';refine⟨s,?_,s2⟩;cases l1 <;> simp[uI,s1]
  .cases kD q;obtain⟨m,e,hm⟩:=h.gW z hz';subst e;refine⟨_,List.mem_append_right _ zMc,.inl (Int.le_refl _),?_⟩;have:=lo.1;dsimp only;split <;> omega
theorem Sw.swap {b o:List (Int×Int)}{p:List (List Int)}{l0 l1:Option Int}{sh:List (Int×Int)}(x:Int×Int) (h:Sw b o p l0 l1 sh) (hx:∀ y,r0 y∈p->y.1<=x.1) (hy:∀ y,r1 y∈p->y.1<=x.1):
  Sw b o (p++[r1 x]) l0 (some (xJ l1 x.2)) (uI l0 sh λ m=>(x.1,if xJ l1 x.2>m then xJ l1 x.2 else m)):=by
 have lo:xJ l1 x.2<=x.2/\∀ m,l1=some m->xJ l1 x.2<=m:=by
  unfold xJ;cases l1 with
  | none=>exact⟨Int.le_refl _,nofun⟩
  | some m=>dsimp only;split <;> refine⟨by omega,λ m' e=>?_⟩ <;> cases e <;> omega
 have la:∃ y,r1 y∈p++[r1 x]/\y.2=xJ l1 x.2:=by
  unfold xJ;cases l1 with
  | none=>exact⟨x,by simp,rfl⟩
  | some m=>
   dsimp only;split
   .obtain⟨y,h1,h2⟩:=h.eK m rfl;exact⟨y,by simp[h1],h2⟩
   .exact⟨x,by simp,rfl⟩
 have snd':∀ s∈sh,(∃ x',r0 x'∈p++[r1 x]/\x'.1<=s.1/\x'.2<=s.2)/\∃ x',r1 x'∈p++[r1 x]/\x'.1<=s.1/\x'.2<=s.2:=λ s hs=>by
  obtain⟨⟨a,a1,a2⟩,c,c1,c2⟩:=h.snd s hs;exact⟨⟨a,by simp[a1],a2⟩,c,by simp[c1],c2⟩
 refine⟨λ y hm=>?_,λ y hm=>?_,λ m e=>?_,λ m e=>?_,?_,λ s hs=>?_,λ y z hm hz=>?_⟩
 .rcases su hm with q | q
  .exact h.gX y q
  .exact (om q).elim
 .rcases su hm with q | q
  .obtain⟨m,e,q2⟩:=h.gW y q;exact⟨_,rfl,by have:=lo.2 m e;omega⟩
  .cases kC q;exact⟨_,rfl,lo.1⟩
 .obtain⟨y,q1,q2⟩:=h.eL m e;exact⟨y,by simp[q1],q2⟩
 .cases e;exact la
 .have:=h.len;cases l0 <;> simp[uI] <;> omega
 .cases l0 with
  | none=>exact snd' s hs
  | some m=>
   rcases List.mem_append.mp hs with q | q
   .exact snd' s q
   .obtain rfl:s=_:=by simpa using q
    obtain⟨y,y1,y2⟩:=la;obtain⟨z,z1,z2⟩:=h.eL m rfl;have hzx:=hx z z1;refine⟨⟨z,by simp[z1],hzx,by dsimp only;split <;> omega⟩,y,y1,?_,by dsimp only;split <;> omega⟩;rcases su y1 with w | w
    .exact hy y w
    .cases kC w;exact Int.le_refl _
 .have hm':r0 y∈p:=by
   rcases su hm with q | q
   .exact q
   .exact (om q).elim
  rcases su hz with q | q
  .obtain⟨s,s1,s2⟩:=h.all y z hm' q;refine⟨s,?_,s2⟩;cases l0 <;> simp[uI,s1]
  .cases kC q;obtain⟨m,e,hm⟩:=h.gX y hm';subst e;refine⟨_,List.mem_append_right _ zMc,.inr (Int.le_refl _),?_⟩;have:=lo.1;dsimp only;split <;> omega
structure Lw (d:List (Key×T)) (l0 l1:Option Int):Prop where
 v0:xR d (.inl 0)=l0.map T.int
 v1:xR d (.inl 1)=l1.map T.int
 len:d.length=(if l0.isSome then 1 else 0)+if l1.isSome then 1 else 0
theorem Lw.Uo {d:List (Key×T)}{l0 l1:Option Int}(h:Lw d l0 l1) (v:Int):Lw (uH d (.inl 0) (.int v)) (some v) l1:=by
 refine⟨by rw[lY];simp,by rw[lY];simpa using h.v1,?_⟩;rw[aX,h.v0,h.len];cases l0 <;> cases l1 <;> simp
theorem Lw.Um {d:List (Key×T)}{l0 l1:Option Int}(h:Lw d l0 l1) (v:Int):Lw (uH d (.inl 1) (.int v)) l0 (some v):=by
 refine⟨by rw[lY];simpa using h.v0,by rw[lY];simp,?_⟩;rw[aX,h.v1,h.len];cases l0 <;> cases l1 <;> simp
end yE
namespace yE
open PySem L2 L3 L5
theorem jm {rows p q:List (List Int)}{x:List Int}(e:L4.wA rows=p++x::q) {a:List Int}(ha:a∈p) {i j:Int}{as xs:List Int}(h1:a=i::as) (h2:x=j::xs):i<=j:=by
 have h:=L4.i6 rows;rw[e,List.pairwise_append] at h;have:=h.2.2 a ha x zMc;subst h1 h2;rw[HT.qm] at this;by_cases c:j=i
 .omega
 .rw[if_neg c] at this;have:=of_decide_eq_false this;omega
theorem NQ (b o:List (Int×Int)) (hl:b.length+o.length<64):∃ sh:List (Int×Int),lP [.tup (b.map zo),.tup (o.map zo)]=some (.tup ((vG sh).map zo))/\sh.length<64/\∀ q,zZ sh q=(zZ b q&&zZ o q):=by
 let a0:W:=.im (.tup (b.map zo))
 let a1:W:=.im (.tup (o.map zo))
 let rows:=b.map r0++o.map r1
 let a2:W:=.im (.lst (rows.map yB))
 have hlen:rows.length<64:=by simp[rows];exact hl
 have hs:pX [.lst (rows.map yB)]=some (.lst ((L4.wA rows).map yB)):=by
  show ((xH (rows.map yB)).bind λ rs=>_)=_;rw[gu,Option.bind_some,if_pos ⟨hlen,λ r hr=>by
   rcases List.mem_append.mp hr with h | h <;> obtain⟨_,_,rfl⟩:=List.mem_map.mp h <;> simp[r0,r1]⟩]
 have plen:(L4.wA rows).length=rows.length:=(L4.t4 rows).length_eq;obtain⟨ρ1,h1,d,l0,l1,sh,e1,w1,s1⟩:=tI (is:=[5,6,7]) (g:=vp 3 (yP (zK 5) (yP (zK 6) (yP (zK 7) vS)))) (b:=jE) yB (λ p ρ=>∃ d l0 l1 sh,ρ=[some a0,some a1,some a2,some (.own (.yy d)),some (.own (.lst (sh.map zo))),none,none,none]/\Lw d l0 l1/\Sw b o p l0 l1 sh) (L4.wA rows) [some a0,some a1,some a2,some (.own (.yy [])),some (.own (.lst [])),none,none,none]
  ⟨[],none,none,[],by simp,⟨rfl,rfl,rfl⟩,⟨nofun,nofun,nofun,nofun,by simp,nofun,nofun⟩⟩ (by
  rintro p x q e ρ ⟨d,l0,l1,sh,rfl,hw,hsw⟩;have hx:x∈rows:=(L4.t4 rows).mem_iff.mp (by rw[e];simp);have hpl:p.length<64:=by
   have:=congrArg List.length e;rw[plen] at this;simp at this;omega
  have hsl:sh.length<16777216:=by have:=hsw.len;omega
  have hdl:d.length<16777216:=by rw[hw.len];split <;> split <;> omega
  rcases List.mem_append.mp hx with hm | hm
  .obtain⟨y,_,rfl⟩:=List.mem_map.mp hm;have st:=hsw.Vp y (λ z hz=>jm e hz rfl rfl) (λ z hz=>jm e hz rfl rfl);have hw':=hw.Uo (xJ l0 y.2);refine⟨[some a0,some a1,some a2,some (.own (.yy (uH d (.inl 0) (.int (xJ l0 y.2))))),some (.own (.lst ((uI l1 sh λ m=>(y.1,if m>xJ l0 y.2 then m else xJ l0 y.2)).map zo))),some (.im (.int y.1)),some (.im (.int 0)),some (.im (.int y.2))],?_,_,_,_,_,(by simp),hw',st⟩;have hr:yB (r0 y)=.tup [.int y.1,.int 0,.int y.2]:=rfl;have v0:=hw'.v0;have v1:=hw'.v1;have ln:=hw'.len;cases l0 <;> cases l1 <;> simp[turn,jE,hr,hw.v0,hdl,hsl,xJ,uI,zM,dep,eqT] at v0 v1 ln ⊢ <;> simp[v0,v1,ln,zo,uI]
  .obtain⟨y,_,rfl⟩:=List.mem_map.mp hm;have st:=hsw.swap y (λ z hz=>jm e hz rfl rfl) (λ z hz=>jm e hz rfl rfl);have hw':=hw.Um (xJ l1 y.2);refine⟨[some a0,some a1,some a2,some (.own (.yy (uH d (.inl 1) (.int (xJ l1 y.2))))),some (.own (.lst ((uI l0 sh λ m=>(y.1,if xJ l1 y.2>m then xJ l1 y.2 else m)).map zo))),some (.im (.int y.1)),some (.im (.int 1)),some (.im (.int y.2))],?_,_,_,_,_,(by simp),hw',st⟩;have hr:yB (r1 y)=.tup [.int y.1,.int 1,.int y.2]:=rfl;have v0:=hw'.v0;have v1:=hw'.v1;have ln:=hw'.len;cases l0 <;> cases l1 <;> simp[turn,jE,hr,hw.v1,hdl,hsl,xJ,uI,zM,dep,eqT] at v0 v1 ln ⊢ <;> simp[v0,v1,ln,zo,uI])
 have hsh:sh.length<64:=by have:=s1.len;omega
 refine⟨sh,?_,hsh,λ q=>?_⟩
 .subst e1;have hc1:YD [some a0,some a1,none,none,none,none,none,none]=some (.lst ((b.map r0).map yB)):=by
   rw[List.map_map];exact tJ zo (yB ∘ r0) b (by simp[a0]) (by omega) λ y _=>by simp[zo,yB,r0]
  have hc2:YC [some a0,some a1,none,none,none,none,none,none]=some (.lst ((o.map r1).map yB)):=by
   rw[List.map_map];exact tJ zo (yB ∘ r1) o (by simp[a1]) (by omega) λ y _=>by simp[zo,yB,r1]
  have hF:=jX sh hsh;have z:b.length+o.length<=16777216:=by omega
  simp only[a0,a1,a2,rows,List.map_append] at hc1 hc2 hs h1;unfold lP Wo;simp[hc1,hc2,z,hs,h1,hF] at hc1 hc2 hs h1 ⊢;simp[hc1,hc2,z,hs,h1,hF]
 .have m0:∀ x,r0 x∈L4.wA rows↔x∈b:=λ x=>by
   rw[(L4.t4 rows).mem_iff];constructor
   .intro h;rcases List.mem_append.mp h with h | h <;> obtain⟨y,hy,e⟩:=List.mem_map.mp h
    .cases kD e;exact hy
    .exact (om e.symm).elim
   .exact λ h=>List.mem_append_left _ (List.mem_map_of_mem h)
  have m1:∀ x,r1 x∈L4.wA rows↔x∈o:=λ x=>by
   rw[(L4.t4 rows).mem_iff];constructor
   .intro h;rcases List.mem_append.mp h with h | h <;> obtain⟨y,hy,e⟩:=List.mem_map.mp h
    .exact (om e).elim
    .cases kC e;exact hy
   .exact λ h=>List.mem_append_right _ (List.mem_map_of_mem h)
  rw[Bool.eq_iff_iff,Bool.and_eq_true,yJ,yJ,yJ];constructor
  .rintro⟨s,hs,g1,g2⟩;obtain⟨⟨x,x1,x2,x3⟩,y,y1,y2,y3⟩:=s1.snd s hs;exact⟨⟨x,(m0 x).mp x1,by omega,by omega⟩,y,(m1 y).mp y1,by omega,by omega⟩
  .rintro⟨⟨x,x1,x2,x3⟩,y,y1,y2,y3⟩;obtain⟨s,s1,g1,g2⟩:=s1.all x y ((m0 x).mpr x1) ((m1 y).mpr y1);exact⟨s,s1,by omega,by omega⟩
end yE
namespace yE
open PySem L2 L3 L5
theorem lj {α:Type}(enc:α->T) (n:Nat) (h:∀ x,dep (enc x)<=n):∀ xs:List α,yC (xs.map enc)<=n
 | []=>by simp[yC]
 | x::xs=>by
  have:=h x;have:=lj enc n h xs;simp only[List.map_cons,yC];omega
theorem PZ (p:Int×Int):dep (zo p)<=1:=by simp[zo,dep,yC]
theorem Yc (ps:List (Int×Int)):dep (.tup (ps.map zo))<=60:=by
 have:=lj zo 1 PZ ps;simp only[dep];omega
end yE
namespace yE
open PySem L2 L3 L5 RN
noncomputable def bT (b:Bd):T:=.tup (b.map zo)
noncomputable def rT (r:List Bd):T:=.lst (r.map bT)
noncomputable def kt (b:Bool):T:=if b=true then .str "keeper" else .str "taker"
noncomputable def zT (w:Wy):T:=.tup [.int w.f,.int w.t,.int w.a,.int w.b]
noncomputable def wB (b:Bool):Int:=if b=true then 1 else 0
noncomputable def yA (s:Sl):T:=.tup [.int s.p,.int (wB s.pu),.int s.gv,.int s.gt]
noncomputable def zx (F:zC):T:=.tup [.tup [.int F.A,.int F.B],.tup (F.os.map kt),.tup (F.ws.map zT),.tup (F.ss.map yA)]
theorem eq_int (i j:Int) (neg:Bool):zM neg (.int i) (.int j)=some (.bl (cond neg (!decide (i=j)) (decide (i=j)))):=by
 simp[zM,dep,eqT];cases neg <;> simp[Bool.beq_eq_decide_eq]
theorem dM (F:zC):rO [zx F]=some (.int F.os.length):=by
 simp[rO,XR,zx]
theorem Xl (q p:Int×Int):nR [zo q,zo p]=some (.bl (wM q p)):=by
 by_cases h1:p.1<=q.1 <;> by_cases h2:p.2<=q.2 <;> simp[nR,Wu,zo,wM,h1,h2]
theorem j9 {α:Type}(g:α->Bool) (xs:List α):pG (xs.map λ x=>T.bl (g x))=some (xs.map g):=by
 have:=Na (xs.map g)
 rwa [List.map_map] at this
theorem N8 (ps:List (Int×Int)) (q:Int×Int) (hl:ps.length<=10000):nN [bT ps,zo q]=some (.bl (zZ ps q)):=by
 have hc:j7 [some (.im (bT ps)),some (.im (zo q))]=some (.lst (ps.map λ p=>T.bl (wM q p))):=by
  unfold j7;refine tJ zo _ ps (by simp[bT]) (by omega) λ p _=>?_;simp[Xl]
 unfold nN Wj;generalize j7=cc at hc ⊢;simp[hc,j9];rfl
theorem NT (A B:Int) (w:Wy) (bd:Bd) (hl:bd.length<64):lS [.tup [.int A,.int B],zT w,bT bd]=some (bT (qC A B w.a w.b bd)):=by
 have h1:j8 [some (.im (.tup [.int A,.int B])),some (.im (zT w)),some (.im (bT bd)),none]=some (.lst ((bd.map (xK w.a w.b)).map zo)):=by
  rw[List.map_map];unfold j8;refine tJ zo _ bd (by simp[bT]) (by omega) λ p _=>?_;simp[zo,zT,xK,yX,p7]
 have h2:jy [some (.im (.tup [.int A,.int B])),some (.im (zT w)),some (.im (bT bd)),some (.im (.lst ((bd.map (xK w.a w.b)).map zo)))]=some (.lst (((bd.map (xK w.a w.b)).filter (vV A B)).map zo)):=by
  have:=mL zo (λ p=>if vV A B p=true then some (zo p) else none) (pick:=[none,some 0]) (it:=xB (zc 3)) (g:=zK 0) (c:=xS (zD nR (ze (zt 1) (ze (zt 0) zq)))) (f:=zt 0) (ρ:=[some (.im (.tup [.int A,.int B])),some (.im (zT w)),some (.im (bT bd)),some (.im (.lst ((bd.map (xK w.a w.b)).map zo)))]) (bd.map (xK w.a w.b)) (by simp) (by simp;omega) (λ p _=>by
   have e:T.tup [.int A,.int B]=zo (A,B):=rfl;have ga:wM (A,B) p=vV A B p:=rfl;simp only[oE,e];simp[Xl,ga];cases vV A B p <;> simp)
  unfold jy;rw[this,show ∀ l:List (Int×Int),l.filterMap (λ p=>if vV A B p=true then some (zo p) else none)=(l.filter (vV A B)).map zo from λ l=>by
   induction l with
   | nil=>rfl
   | cons a l ih=>by_cases h:vV A B a=true <;> simp[List.filterMap_cons,h,ih]]
 have h3:=jX ((bd.map (xK w.a w.b)).filter (vV A B)) (Nat.lt_of_le_of_lt (List.length_filter_le _ _) (by simpa using hl));unfold lS Wt;generalize j8=d1 at h1 ⊢;generalize jy=d2 at h2 ⊢;generalize rP=ff at h3 ⊢;generalize (bd.map (xK w.a w.b)).map zo=L1 at h1 h2;generalize (((bd.map (xK w.a w.b)).filter (vV A B)).map zo)=L2 at h2 h3;simp[h1,h2,h3];rfl
theorem NC (b c:Bd) (hl:b.length+c.length<64):lM [bT b,bT c]=some (bT (uU b c)):=ND b c hl
theorem NP (b c:Bd) (hl:b.length+c.length<64):lP [bT b,bT c]=some (bT (u6 b c)):=by
 obtain⟨sh,h1,_,h2⟩:=NQ b c hl;have:vG sh=u6 b c:=ug.eq (fm _) (fm _) λ q=>by
  rw[oB,h2,<- YE]
 rw[<- this];exact h1
theorem NB {A B:Int}(hA:0<=A/\A<=12) (bs:List Bd) (h:∀ b∈bs,Gd A B b):lQ [.lst (bs.map bT)]=some (bT (uV bs)):=by
 obtain⟨ρ',h1,h2⟩:=tI (is:=[2]) (g:=zK 2) (b:=jF) bT (λ p ρ=>ρ=[some (.im (.lst (bs.map bT))),some (.im (bT (p.foldl uU []))),none]) bs [some (.im (.lst (bs.map bT))),some (.im (bT [])),none] rfl (by
  rintro p x q e ρ rfl;have g1:Gd A B (p.foldl uU []):=mY p [] Gd.nil λ c hc=>h c (by rw[e];simp[hc]);have g2:Gd A B x:=h x (by rw[e];simp);have l1:=g1.qo hA.1;have l2:=g2.qo hA.1;refine⟨[some (.im (.lst (bs.map bT))),some (.im (bT (uU (p.foldl uU []) x))),some (.im (bT x))],?_,by simp⟩;simp[turn,jF,NC (p.foldl uU []) x (by omega)])
 subst h2;unfold lQ Wr;generalize jF=bb at h1 ⊢;have e:bT []=.tup []:=rfl;rw[e] at h1;simp[h1,uV]
theorem NN {A B:Int}(hA:0<=A/\A<=12) (hB:0<=B) (bs:List Bd) (h:∀ b∈bs,Gd A B b):lR [.lst (bs.map bT)]=some (bT (oY bs)):=by
 obtain⟨ρ',h1,h2⟩:=tI (is:=[2]) (g:=zK 2) (b:=jG) bT (λ p ρ=>ρ=[some (.im (.lst (bs.map bT))),some (.im (bT (p.foldl u6 wz))),none]) bs [some (.im (.lst (bs.map bT))),some (.im (bT wz)),none] rfl (by
  rintro p x q e ρ rfl;have g1:Gd A B (p.foldl u6 wz):=eC p wz (Gd.wz hA.1 hB) λ c hc=>h c (by rw[e];simp[hc]);have g2:Gd A B x:=h x (by rw[e];simp);have l1:=g1.qo hA.1;have l2:=g2.qo hA.1;refine⟨[some (.im (.lst (bs.map bT))),some (.im (bT (u6 (p.foldl u6 wz) x))),some (.im (bT x))],?_,by simp⟩;simp[turn,jG,NP (p.foldl u6 wz) x (by omega)])
 subst h2;unfold lR Ws;generalize jG=bb at h1 ⊢;have e:bT wz=.tup [.tup [.int 0,.int 0]]:=rfl;rw[e] at h1;simp[h1,oY]
end yE
namespace yE
open PySem L2 L3 L5 RN
theorem gY {α:Type}{is:List Nat}{g:T->Ev->Option Ev}{b:Sm}(enc ret:α->T) (test:α->Bool) (ρ0:Ev):∀ (xs:List α) (ρ:Ev),yU is ρ=ρ0->
  (∀ x∈xs,∃ ρ',yU is ρ'=ρ0/\turn g b (enc x) ρ0=some (if test x=true then .rt (ret x) else .nx ρ'))->
  vc is g b (xs.map enc) ρ=some (match xs.find? test with | some x=>.rt (ret x) | none=>.nx ρ0)
 | [],ρ,h,_=>by rw[List.map_nil,List.find?_nil,vc,h]
 | x::xs,ρ,h,ht=>by
  rw[List.map_cons,gZ,h];obtain⟨ρ',h1,h2⟩:=ht x zMc;rw[h2,List.find?_cons];by_cases c:test x=true
  .rw[if_pos c,c];rfl
  .rw[if_neg c];rw[Bool.not_eq_true] at c;rw[c];exact gY enc ret test ρ0 xs ρ' h1 λ y hy=>ht y (zMo _ hy)
theorem Nv (i a b:Int):jY [.int i,.int a,.int b]=some (.bl (decide (a<=i)&&decide (i<=b))):=by
 have h:jZ [.int i]=some (.bl true):=by simp[jZ,Wi,vT]
 by_cases h1:a<=i <;> by_cases h2:i<=b <;> simp[jY,Wh,h,h1,h2]
theorem Xk (F:zC) (p:Nat) (h:p<F.os.length):lO [zx F,.int p]=some .zl:=by
 have h1:=Nv p 0 ((F.os.length:Int)-1);rw[show decide ((0:Int)<=p)=true from decide_eq_true (by omega),show decide ((p:Int)<=(F.os.length:Int)-1)=true from decide_eq_true (by omega)] at h1;have h2:=dM F;unfold lO Wm;generalize zx F=fl at *;simp[h1,h2]
theorem Oy (pu:Bool) (A B:Int) (sp gv gt:Int) (x y:Int) (hg:1<=gv) (b0 b1:T) (hb:zp b0 (.int (wB pu))=some (.int (if pu=true then B else A))) (hs2:zp b1 (.int 2)=some (.int gv)) (hs3:zp b1 (.int 3)=some (.int gt)) (pr:T):
  ∀ (n m:Nat) (g t:Int) (acc:Bd),(if pu=true then B else A)+1-g<=n->n<m->acc.length+n<=1000->
  ∃ g' t',xI [] (zR (zb pj (zc 5) (zb zp (zc 0) (zc 3)))) pH m [some (.im b0),some (.im b1),some (.im pr),some (.im (.int (wB pu))),some (.own (.lst (acc.map zo))),some (.im (.int g)),some (.im (.int t))]
   = some (.nx [some (.im b0),some (.im b1),some (.im pr),some (.im (.int (wB pu))),some (.own (.lst ((acc++wF pu (if pu=true then B else A) gv gt n g t).map zo))),some (.im (.int g')),some (.im (.int t'))]):=by
 have hend:∀ (m:Nat) (g t:Int) (acc:Bd),¬ g<=(if pu=true then B else A)->xI [] (zR (zb pj (zc 5) (zb zp (zc 0) (zc 3)))) pH (m+1) [some (.im b0),some (.im b1),some (.im pr),some (.im (.int (wB pu))),some (.own (.lst (acc.map zo))),some (.im (.int g)),some (.im (.int t))]
   = some (.nx [some (.im b0),some (.im b1),some (.im pr),some (.im (.int (wB pu))),some (.own (.lst (acc.map zo))),some (.im (.int g)),some (.im (.int t))]):=λ m g t acc hn=>by
  unfold xI;simp only[zp] at hb;simp[hb,hn]
 intro n
 induction n with
 | zero=>
  intro m g t acc h1 h2 h3;obtain⟨m,rfl⟩:∃ k,m=k+1:=⟨m-1,by omega⟩
  refine⟨g,t,?_⟩;rw[hend m g t acc (by omega)];simp[wF]
 | succ n ih=>
  intro m g t acc h1 h2 h3;obtain⟨m,rfl⟩:∃ k,m=k+1:=⟨m-1,by omega⟩
  by_cases hc:g<=(if pu=true then B else A)
  .obtain⟨g',t',e⟩:=ih m (g+gv) (yX (t-gt)) (acc++[yW pu g t]) (by omega) (by omega) (by simp;omega);refine⟨g',t',?_⟩;have hb1:pH [some (.im b0),some (.im b1),some (.im pr),some (.im (.int (wB pu))),some (.own (.lst (acc.map zo))),some (.im (.int g)),some (.im (.int t))]=some (.nx [some (.im b0),some (.im b1),some (.im pr),some (.im (.int (wB pu))),some (.own (.lst ((acc++[yW pu g t]).map zo))),some (.im (.int (g+gv))),some (.im (.int (yX (t-gt))))]):=by
    simp only[zp] at hs2 hs3;have hl:acc.length<16777216:=by omega
    unfold pH;cases pu <;> simp[wB,eq_int,hs2,hs3,hl,p7,yX,yW,zo]
   unfold xI;simp only[zp] at hb;generalize pH=bb at *;have e2:wF pu (if pu=true then B else A) gv gt (n+1) g t=yW pu g t::wF pu (if pu=true then B else A) gv gt n (g+gv) (yX (t-gt)):=by
    rw[wF,if_pos hc]
   rw[e2];simp only[List.append_assoc,List.singleton_append] at e;simp[hb,hc,hb1];simpa using e
  .refine⟨g,t,?_⟩;rw[hend m g t acc hc,wF,if_neg hc,List.append_nil]
theorem NJ {F:zC}(ok:F.Ok) (s:Sl) (hs:1<=s.gv/\0<=s.gt) (p:Int×Int) (h0:0<=p.1/\0<=p.2):lI [.tup [.int F.A,.int F.B],yA s,zo p]=some (.lst ((xE F s p).map zo)):=by
 obtain⟨sp,pu,gv,gt⟩:=s;have a1:=ok.a1;have b1:=ok.b1;obtain⟨g',t',h⟩:=Oy pu F.A F.B sp gv gt p.1 p.2 hs.1 (.tup [.int F.A,.int F.B]) (yA ⟨sp,pu,gv,gt⟩) (by cases pu <;> simp[wB]) (by simp[yA]) (by simp[yA]) (zo p) 100 1000000 (zW pu p) (y9 pu p) [] (by cases pu <;> simp[zW] <;> omega) (by decide) (by simp);unfold lI XS sX;generalize hb:pH=bb at h ⊢;unfold xE zC.yc;simp only[List.map_nil,List.nil_append] at h;cases pu <;> simp[yA,wB,zo,zW,y9] at h ⊢ <;> simp[h]
theorem Xh (F:zC) (p:Nat) (h:p<F.os.length) (hl:F.ss.length<=60):sV [zx F,.int p]=some (match F.stall p with | some s=>yA s | none=>.zl):=by
 have hl':=gY (is:=[2]) (g:=zK 2) (b:=l8) yA yA (λ s=>decide (s.p=p)) [some (.im (zx F)),some (.im (.int p)),none] F.ss [some (.im (zx F)),some (.im (.int p)),none] (by simp) λ s _=>⟨[some (.im (zx F)),some (.im (.int p)),some (.im (yA s))],by simp,by
  by_cases c:s.p=p
  .simp[turn,l8,yA,eq_int,c]
  .have c':¬ ((s.p:Int)=(p:Int)):=by omega
   simp[turn,l8,yA,eq_int,c,c']⟩
 have h1:=Xk F p h;have h2:zp (zx F) (.int 3)=some (.tup (F.ss.map yA)):=by simp[zx]
 unfold sV XO;generalize l8=bb at *;generalize zx F=fl at *;simp only[zp] at h2;unfold zC.stall;generalize F.ss.find? _=o at *;simp[h1,h2,hl'];cases o <;> simp
theorem ZR:∀ (ws:List Wy) (k:Nat),qx k (ws.map zT)=(ws.zipIdx k).map λ wi=>T.tup [.int (wi.2:Int),zT wi.1]
 | [],k=>rfl
 | w::ws,k=>by
  rw[List.map_cons,qx,ZR ws (k+1),List.zipIdx_cons,List.map_cons]
theorem lX (f:Wy->Bool):∀ (ws:List Wy) (k:Nat),((ws.zipIdx k).filter λ wi=>f wi.1).map (λ wi=>wi.1)=ws.filter f
 | [],k=>rfl
 | w::ws,k=>by
  rw[List.zipIdx_cons,List.filter_cons,List.filter_cons];by_cases c:f w=true
  .rw[if_pos (by exact c),if_pos c,List.map_cons,lX f ws]
  .rw[if_neg (by exact c),if_neg c,lX f ws]
theorem Xg (F:zC) (p:Nat) (h:p<F.os.length) (hl:F.ws.length<=60):qG [zx F,.int p]=some (.lst (((F.ws.zipIdx).filter λ wi=>decide (wi.1.f=p)).map λ wi=>T.int (wi.2:Int))):=by
 have hc:jz [some (.im (zx F)),some (.im (.int p))]=some (.lst (((F.ws.zipIdx).filter λ wi=>decide (wi.1.f=p)).map λ wi=>T.int (wi.2:Int))):=by
  have:=mL (λ wi:Wy×Nat=>T.tup [.int (wi.2:Int),zT wi.1]) (λ wi=>if wi.1.f=p then some (T.int (wi.2:Int)) else none) (pick:=[none,none,some 1]) (it:=uw qy (ze (zb zp (zc 0) (cS (.int 2))) zq)) (g:=vp 2 (yP (zK 0) (yP (zK 1) vS))) (c:=zR (zb (zM false) (zb zp (zc 1) (cS (.int 0))) (zc 2))) (f:=zt 0) (ρ:=[some (.im (zx F)),some (.im (.int p))]) (F.ws.zipIdx) (by
   rw[<- ZR];simp[zx]) (by simp;omega) (λ wi _=>by
   by_cases c:wi.1.f=p
   .simp[zT,eq_int,c]
   .have c':¬ ((wi.1.f:Int)=(p:Int)):=by omega
    simp[zT,eq_int,c,c'])
  unfold jz;rw[this];congr 2
  induction F.ws.zipIdx with
  | nil=>rfl
  | cons a l ih=>by_cases c:a.1.f=p <;> simp[List.filterMap_cons,c,ih]
 have h1:=Xk F p h;unfold qG XJ;generalize jz=cc at *;generalize zx F=fl at *;generalize List.map (λ wi:Wy×Nat=>T.int (wi.2:Int)) _=LL at *;simp[h1,hc]
end yE
namespace yE
open PySem L2 L3 L5 RN
theorem ZN:∀ (b c:Bd),we (b.map zo) (c.map zo)=decide (b=c)
 | [],[]=>by simp[we]
 | [],_::_=>by simp[we]
 | _::_,[]=>by simp[we]
 | p::b,q::c=>by
  have h:=ZN b c;have e:eqT (zo p) (zo q)=decide (p=q):=by
   obtain⟨p1,p2⟩:=p;obtain⟨q1,q2⟩:=q;by_cases h1:p1=q1 <;> by_cases h2:p2=q2 <;> simp[zo,eqT,we,h1,h2]
  rw[List.map_cons,List.map_cons,we,e,h];by_cases h1:p=q <;> by_cases h2:b=c <;> simp[h1,h2]
theorem RM (b c:Bd):zM true (bT b) (bT c)=some (.bl (decide (b≠c))):=by
 have h1:dep (bT b)<=60:=Yc b;have h2:dep (bT c)<=60:=Yc c;unfold zM;rw[if_pos ⟨h1,h2⟩];show some (T.bl (!(we (b.map zo) (c.map zo))))=_;rw[ZN];by_cases h:b=c <;> simp[h]
theorem px (l:List Bd) (p:Nat) (h:p<l.length):zp (rT l) (.int p)=some (bT (l.getD p [])):=by
 show L2.yh (l.map bT) (p:Int)=_;refine wQ ?_;rw[List.getElem?_map,List.getElem?_eq_getElem h,List.getD_eq_getElem?_getD,List.getElem?_eq_getElem h];rfl
theorem NI {F:zC}(ok:F.Ok) (p:Nat) (hp:p<F.os.length) (b:Bd) (hb:Gd F.A F.B b):nQ [zx F,.int p,bT b]=some (bT (match F.stall p with | none=>b | some s=>pE F s b)):=by
 have h1:=Xh F p hp ok.s8;cases hs:F.stall p with
 | none=>
  rw[hs] at h1;unfold nQ cj;generalize sV=f1 at h1 ⊢;generalize zx F=fl at *;generalize bT b=bb at *;have is1:wC false .zl .zl=some (.bl true):=rfl;simp[h1,is1]
 | some s=>
  rw[hs] at h1;replace h1:sV [zx F,.int p]=some (yA s):=h1;have hmem:s∈F.ss:=List.mem_of_find?_eq_some hs;have hsz:=ok.ss s hmem;have h64:(F.A+1)*(F.B+1)<64:=by
   rcases ok.sl with x | x
   .rw[x] at hmem;cases hmem
   .exact x
  have a0:=ok.a0;have b0:=ok.b0;have hone:∀ x∈b,((xE F s x).length:Int)<=F.yc s.pu+1:=λ x hx=>by
   have q:=hb.wx x hx;have:=Y7 s.pu (F.yc s.pu) s.gv s.gt hsz.1 100 (zW s.pu x) (y9 s.pu x) (by unfold zC.yc zW;split <;> omega);have g0:0<=zW s.pu x:=by unfold zW;split <;> omega
   unfold xE;omega
  have hall:∀ q:Bd,(∀ x∈q,x∈b)->((q.flatMap (xE F s)).length:Int)<=q.length*(F.yc s.pu+1):=λ q=>by
   induction q with
   | nil=>intro _;simp
   | cons x q ih=>
    intro hq;have i1:=ih λ y hy=>hq y (zMo _ hy);have i2:=hone x (hq x zMc);rw[List.flatMap_cons,List.length_append,List.length_cons,Int.natCast_add,Int.natCast_add,Int.add_mul];omega
  have hlen:(b.flatMap (xE F s)).length<64:=by
   have h2:=hall b λ _ h=>h;have l1:=hb.qo a0;have l2:=hb.Qi b0;have:((b.flatMap (xE F s)).length:Int)<64:=by
    refine Int.lt_of_le_of_lt h2 (Int.lt_of_le_of_lt ?_ h64);unfold zC.yc;split
    .exact Int.mul_le_mul_of_nonneg_right l1 (by omega)
    .rw[Int.mul_comm (F.A+1)];exact Int.mul_le_mul_of_nonneg_right l2 (by omega)
   omega
  have hbr:zp (zx F) (.int 0)=some (.tup [.int F.A,.int F.B]):=by simp[zx]
  obtain⟨ρ',h2,h3⟩:=tI (is:=[5]) (g:=zK 5) (b:=jH) zo (λ q ρ=>ρ=[some (.im (zx F)),some (.im (.int p)),some (.im (bT b)),some (.im (yA s)),some (.own (.lst ((q.flatMap (xE F s)).map zo))),none]) b [some (.im (zx F)),some (.im (.int p)),some (.im (bT b)),some (.im (yA s)),some (.own (.lst [])),none] rfl (by
   rintro q x r e ρ rfl;have hx:x∈b:=by rw[e];simp
   have q1:=hb.wx x hx;have hF:=NJ ok s hsz x ⟨q1.1.1,q1.2.1⟩;have hl2:(q.flatMap (xE F s)).length+(xE F s x).length<=16777216:=by
    have e2:(b.flatMap (xE F s)).length=(q.flatMap (xE F s)).length+((xE F s x).length+(r.flatMap (xE F s)).length):=by rw[e];simp
    omega
   refine⟨[some (.im (zx F)),some (.im (.int p)),some (.im (bT b)),some (.im (yA s)),some (.own (.lst (((q++[x]).flatMap (xE F s)).map zo))),some (.im (zo x))],?_,by simp⟩;have e3:((q++[x]).flatMap (xE F s)).map zo=(q.flatMap (xE F s)).map zo++(xE F s x).map zo:=by simp
   rw[e3];unfold turn jH;have l3:((q.flatMap (xE F s)).map zo).length+((xE F s x).map zo).length<=16777216:=by simpa using hl2
   generalize lI=ff at *;generalize (q.flatMap (xE F s)).map zo=L1 at *;generalize (xE F s x).map zo=L2 at *;generalize zx F=fl at *;simp only[zp] at hbr;simp[hbr,hF,l3])
  subst h3;have hF:=jX (b.flatMap (xE F s)) hlen;have nn:wC false (yA s) .zl=some (.bl false):=rfl;unfold nQ cj;generalize jH=bb at *;generalize rP=ff at *;generalize sV=f1 at *;generalize (b.flatMap (xE F s)).map zo=L1 at *;have hbT:wX (bT b)=some (b.map zo):=rfl;generalize bT b=bt at *;generalize zx F=fl at *;generalize yA s=st at *;simp[h1,nn,hbT,h2,hF];rfl
theorem N6 {F:zC}(ok:F.Ok) (p:Nat) (hp:p<F.os.length) (l:List Bd) (hl:l.length=F.os.length) (hg:∀ b∈l,Gd F.A F.B b):lJ [zx F,.int p,rT l]=some (bT (xk F l p)):=by
 have h1:=Xg F p hp ok.rS;have hw2:zp (zx F) (.int 2)=some (.tup (F.ws.map zT)):=by simp[zx]
 have hw0:zp (zx F) (.int 0)=some (.tup [.int F.A,.int F.B]):=by simp[zx]
 have hw1:zp (zx F) (.int 1)=some (.tup (F.os.map kt)):=by simp[zx]
 have c1:j5 [some (.im (zx F)),some (.im (.int p)),some (.im (rT l)),none,none]=some (.lst ((F.ws.filter λ w=>decide (w.f=p)).map zT)):=by
  rw[<- lX (λ w=>decide (w.f=p)) F.ws 0,List.map_map];unfold j5;refine tJ (λ wi:Wy×Nat=>T.int (wi.2:Int)) _ ((F.ws.zipIdx).filter λ wi=>decide (wi.1.f=p)) ?_ (Nat.le_trans (List.length_filter_le _ _) (by rw[List.length_zipIdx];have:=ok.rS;omega)) λ wi hwi=>?_
  .generalize qG=ff at *;simp[h1]
  .have hm:=(List.mem_filter.mp hwi).1;have hg:=List.mem_zipIdx_iff_getElem?.mp hm;have:L2.yh (F.ws.map zT) (wi.2:Int)=some (zT wi.1):=by
    exact wQ (by rw[List.getElem?_map,hg];rfl)
   generalize zx F=fl at *;simp only[zp] at hw2;simp[hw2,this]
 have c2:jv [some (.im (zx F)),some (.im (.int p)),some (.im (rT l)),some (.im (.lst ((F.ws.filter λ w=>decide (w.f=p)).map zT))),none]=some (.lst ((wG F l p).map bT)):=by
  unfold wG;rw[List.map_map];unfold jv;refine tJ zT _ (F.ws.filter λ w=>decide (w.f=p)) (by simp) (Nat.le_trans (List.length_filter_le _ _) (by have:=ok.rS;omega)) λ w hw=>?_;have hm:=(List.mem_filter.mp hw).1;have ht:w.t<l.length:=by rw[hl];exact (ok.ws w hm).2
  have e1:=px l w.t ht;have gb:Gd F.A F.B (l.getD w.t []):=by
   rw[List.getD_eq_getElem?_getD,List.getElem?_eq_getElem ht];exact hg _ (List.getElem_mem ht)
  have l13:=gb.qo ok.a0;have a12:=ok.a1;have hF:=NT F.A F.B w (l.getD w.t []) (by omega);have e2:zp (zT w) (.int 1)=some (.int (w.t:Int)):=by simp[zT]
  obtain⟨bd,hbd⟩:∃ bd,l.getD w.t []=bd:=⟨_,rfl⟩
  rw[hbd] at e1 gb hF;have hbd':(l[w.t]?).getD []=bd:=by rw[<- hbd,List.getD_eq_getElem?_getD]
  generalize lS=ff at *;generalize zx F=fl at *;generalize rT l=rt at *;generalize zT w=wt at *;simp only[zp] at hw0 e1 e2;simp[hw0,e1,e2,hF,hbd']
 have gah:=jI F l p;have c3:=NB ⟨ok.a0,ok.a1⟩ (wG F l p) gah;have c4:=NN ⟨ok.a0,ok.a1⟩ ok.b0 (wG F l p) gah;have c5:=NI ok p hp (uV (wG F l p)) (mY _ _ Gd.nil gah);have ho:L2.yh (F.os.map kt) (p:Int)=some (kt (F.os.getD p false)):=by
  refine wQ ?_;rw[List.getElem?_map,List.getElem?_eq_getElem hp,List.getD_eq_getElem?_getD,List.getElem?_eq_getElem hp];rfl
 have hk:∀ b:Bool,zM false (kt b) (.str "keeper")=some (.bl b):=λ b=>by cases b <;> rfl
 unfold lJ XU;generalize j5=d1 at *;generalize jv=d2 at *;generalize lQ=f1 at *;generalize lR=f2 at *;generalize nQ=f3 at *;generalize ((F.ws.filter λ w=>decide (w.f=p)).map zT)=L1 at *;generalize zx F=fl at *;generalize rT l=rt at *;unfold xk;have hk':=hk (F.os.getD p false);generalize F.os.getD p false=kb at *;generalize kt kb=ktb at *;generalize (T.str "keeper")=ks at *;simp only[zp] at hw1;cases kb with
 | true=>
  simp[c1,c2,hw1,ho,hk',c3,c5]
  all_goals (cases F.stall p <;> rfl)
 | false=>simp[c1,c2,hw1,ho,hk',c4]
end yE
namespace yE
open PySem L2 L3 L5 RN
theorem fQ {α β:Type}(c:α->Bool) (g:α->β):∀ l:List α,l.filterMap (λ x=>if c x=true then some (g x) else none)=(l.filter c).map g
 | []=>rfl
 | a::l=>by by_cases h:c a=true <;> simp[List.filterMap_cons,h,fQ c g l]
theorem QH (t:Nat) (fr:List Nat):oI false (.int t) (.lst (fr.map λ(k:Nat)=>T.int (k:Int)))=some (.bl (fr.contains t)):=by
 have d1:yC (fr.map λ(k:Nat)=>T.int (k:Int))<=60:=by
  refine lj _ 60 (λ x=>?_) fr;simp[dep]
 have d0:dep (.int (t:Int))<=60:=by simp[dep]
 unfold oI;show (if dep (.int (t:Int))<=60/\yC (fr.map λ(k:Nat)=>T.int (k:Int))<=60 then _ else _)=_;rw[if_pos ⟨d0,d1⟩];show some (T.bl ((fr.map λ(k:Nat)=>T.int (k:Int)).any λ x=>eqT x (.int t)))=_;congr 2;rw[Bool.eq_iff_iff,List.any_eq_true,List.contains_iff_mem];constructor
 .rintro⟨x,hx,h⟩;obtain⟨k,hk,rfl⟩:=List.mem_map.mp hx;have:(k:Int)=(t:Int):=by simpa [eqT] using h
  have:k=t:=by omega
  subst this;exact hk
 .intro h;exact⟨_,List.mem_map.mpr ⟨t,h,rfl⟩,by simp[eqT]⟩
theorem N5 {F:zC}(ok:F.Ok) (last:List Bd) (fr:List Nat) (hl:last.length=F.os.length) (hg:∀ b∈last,Gd F.A F.B b):
  nB [zx F,rT last,.lst (fr.map λ(k:Nat)=>T.int (k:Int))]=some (rT (yx F last fr)):=by
 have hw2:zp (zx F) (.int 2)=some (.tup (F.ws.map zT)):=by simp[zx]
 have c1:j4 [some (.im (zx F)),some (.im (rT last)),some (.im (.lst (fr.map λ(k:Nat)=>T.int (k:Int)))),some (.own (.lst (last.map bT))),none]=some (.lst (((F.ws.filter λ w=>fr.contains w.t).map λ w=>(w.f:Int)).map T.int)):=by
  have:=mL zT (λ w=>if fr.contains w.t=true then some (T.int (w.f:Int)) else none) (pick:=[none,some 2]) (it:=xB (zb zp (zc 0) (cS (.int 2)))) (g:=zK 0) (c:=zR (zb (oI false) (zb zp (zc 0) (cS (.int 1))) (zc 1))) (f:=zb zp (zc 0) (cS (.int 0))) (ρ:=[some (.im (zx F)),some (.im (rT last)),some (.im (.lst (fr.map λ(k:Nat)=>T.int (k:Int)))),some (.own (.lst (last.map bT))),none]) F.ws (by
    generalize zx F=fl at *;simp only[zp] at hw2;simp[hw2]) (by have:=ok.rS;omega) (λ w _=>by
   have hi:=QH w.t fr;generalize (T.lst (fr.map λ(k:Nat)=>T.int (k:Int)))=ft at *;generalize fr.contains w.t=cb at *;cases cb <;> simp[zT,hi])
  unfold j4;rw[this];rw[fQ (λ w:Wy=>fr.contains w.t) (λ w:Wy=>T.int (w.f:Int)),List.map_map];rfl
 have hss:qO [.lst (((F.ws.filter λ w=>fr.contains w.t).map λ w=>(w.f:Int)).map T.int)]=some (.lst ((vn ((F.ws.filter λ w=>fr.contains w.t).map λ w=>(w.f:Int))).map T.int)):=by
  show (match uN (((F.ws.filter λ w=>fr.contains w.t).map λ w=>(w.f:Int)).map T.int) with | some ns=>_ | none=>_)=_;rw[Zu];refine if_pos ?_;have:=List.length_filter_le (λ w:Wy=>fr.contains w.t) F.ws;have:=ok.rS;simp only[List.length_map];omega
 have hmem:∀ k∈vn ((F.ws.filter λ w=>fr.contains w.t).map λ w=>(w.f:Int)),∃ p:Nat,k=(p:Int)/\p<F.os.length/\tK F fr p=true:=λ k hk=>by
  obtain⟨w,hw,rfl⟩:=List.mem_map.mp (kX.mp hk);obtain⟨w1,w2⟩:=List.mem_filter.mp hw;exact⟨w.f,rfl,(ok.ws w w1).1,List.any_eq_true.mpr ⟨w,w1,by simpa using w2⟩⟩
 have hway:∀ p:Nat,tK F fr p=true->(p:Int)∈vn ((F.ws.filter λ w=>fr.contains w.t).map λ w=>(w.f:Int)):=λ p h=>by
  obtain⟨w,w1,w2⟩:=List.any_eq_true.mp h;have w3:w.f=p/\fr.contains w.t=true:=by simpa using w2
  exact kX.mpr (List.mem_map.mpr ⟨w,List.mem_filter.mpr ⟨w1,w3.2⟩,by rw[w3.1]⟩)
 generalize vn ((F.ws.filter λ w=>fr.contains w.t).map λ w=>(w.f:Int))=up at *;have ft:∃ t,(T.lst (fr.map λ(k:Nat)=>T.int (k:Int)))=t:=⟨_,rfl⟩
 obtain⟨ρ',h1,h2⟩:=tI (is:=[4]) (g:=zK 4) (b:=jC) T.int (λ pre ρ=>ρ=[some (.im (zx F)),some (.im (rT last)),some (.im (.lst (fr.map λ(k:Nat)=>T.int (k:Int)))),some (.own (.lst (((List.range last.length).map λ(p:Nat)=>if (p:Int)∈pre then xk F last p else last.getD p []).map bT))),none]) up
   [some (.im (zx F)),some (.im (rT last)),some (.im (.lst (fr.map λ(k:Nat)=>T.int (k:Int)))),some (.own (.lst (last.map bT))),none] (by
  have e:(List.range last.length).map (λ(p:Nat)=>if (p:Int)∈([]:List Int) then xk F last p else last.getD p [])=last:=by
   refine List.ext_getElem (by simp) λ i h1 h2=>?_;simp[h2]
  rw[e];rfl) (by
  rintro pre k q e ρ rfl;obtain⟨p,rfl,hp,hw⟩:=hmem k (by rw[e];simp);have hF:=N6 ok p hp last hl hg;refine⟨[some (.im (zx F)),some (.im (rT last)),some (.im (.lst (fr.map λ(k:Nat)=>T.int (k:Int)))),some (.own (.lst (((List.range last.length).map λ(i:Nat)=>if (i:Int)∈pre++[(p:Int)] then xk F last i else last.getD i []).map bT))),some (.im (.int p))],?_,by simp⟩;have hset:(((List.range last.length).map λ(i:Nat)=>if (i:Int)∈pre then xk F last i else last.getD i []).map bT).set p (bT (xk F last p))=((List.range last.length).map λ(i:Nat)=>if (i:Int)∈pre++[(p:Int)] then xk F last i else last.getD i []).map bT:=by
   refine List.ext_getElem (by simp) λ i h1 h2=>?_;rw[List.getElem_set];simp only[List.getElem_map,List.getElem_range,List.mem_append,List.mem_singleton];by_cases c:p=i
   .subst c;simp
   .have c':¬ ((i:Int)=(p:Int)):=by omega
    simp[c,c']
  have hix:wL (((List.range last.length).map λ(i:Nat)=>if (i:Int)∈pre then xk F last i else last.getD i []).map bT).length (p:Int)=some p:=by
   unfold wL;simp only[List.length_map,List.length_range];rw[if_pos (by omega),if_pos (by omega),Int.toNat_natCast]
  rw[<- hset];unfold turn jC;generalize lJ=ff at *;generalize (((List.range last.length).map λ(i:Nat)=>if (i:Int)∈pre then xk F last i else last.getD i []).map bT)=LL at *;generalize zx F=fl at *;generalize rT last=rl at *;generalize (T.lst (fr.map λ(k:Nat)=>T.int (k:Int)))=ftt at *;simp[hF,hix])
 subst h2;have fin:((List.range last.length).map λ(p:Nat)=>if (p:Int)∈up then xk F last p else last.getD p [])=yx F last fr:=by
  unfold yx;refine List.map_congr_left λ p hp=>?_;by_cases c:tK F fr p=true
  .rw[if_pos c,if_pos (hway p c)]
  .rw[if_neg c,if_neg λ h=>c (by obtain⟨p',e,_,h'⟩:=hmem _ h;exact (show p'=p by omega)▸h')]
 rw[fin] at h1;have hlist:listS [rT last]=some (.lst (last.map bT)):=rfl;unfold nB XT;generalize j4=cc at *;generalize jC=bb at *;generalize (((F.ws.filter λ w=>fr.contains w.t).map λ w=>(w.f:Int)).map T.int)=L1 at *;generalize hup:up.map T.int=L2 at *;generalize last.map bT=L3 at *;generalize zx F=fl at *;have hsq:wX (rT last)=some L3:=by simpa using hlist
 generalize rT last=rl at *;generalize (T.lst (fr.map λ(k:Nat)=>T.int (k:Int)))=ftt at *;simp[hsq,c1,hss,h1,rT]
end yE
namespace yE
open PySem L2 L3 L5 RN
theorem ZS {α:Type}(enc:α->T) (d:α) (fo:List α):∀ (l:List α) (k:Nat),(∀ i,l.getD i d=fo.getD (k+i) d)->qx k (l.map enc)=(List.range l.length).map λ(p:Nat)=>T.tup [.int ((k+p:Nat):Int),enc (fo.getD (k+p) d)]
 | [],k,_=>rfl
 | b::l,k,h=>by
  have h0:=h 0;rw[List.map_cons,qx,ZS enc d fo l (k+1) λ i=>by have:=h (i+1);rw[show k+1+i=k+(i+1) from by omega];simpa using this];rw[List.length_cons,List.range_succ_eq_map,List.map_cons,List.map_map];have e:b=fo.getD k d:=by simpa using h0
  congr 1
  .rw[e];rfl
  .refine List.map_congr_left λ p _=>?_;simp only[Function.comp];rw[show k+1+p=k+Nat.succ p from by omega]
noncomputable def xU (fr:List Nat):T:=.lst (fr.map λ(k:Nat)=>T.int (k:Int))
theorem OW (a:T) (b c:Option L5.W) (last fo:List Bd) (hl:fo.length=last.length) (h16:fo.length<=10000):l6 [some (.im a),b,c,some (.im (rT last)),some (.im (rT fo))]=some (xU (wc last fo)):=by
 have:=mL (λ p:Nat=>T.tup [.int (p:Int),bT (fo.getD p [])]) (λ p=>if decide (fo.getD p []≠last.getD p [])=true then some (T.int (p:Int)) else none) (pick:=[none,none,some 3]) (it:=uw qy (ze (zc 4) zq)) (g:=vp 2 (yP (zK 0) (yP (zK 1) vS))) (c:=zR (zb (zM true) (zc 1) (zb zp (zc 2) (zc 0)))) (f:=zt 0) (ρ:=[some (.im a),b,c,some (.im (rT last)),some (.im (rT fo))]) (List.range fo.length) (by
   have:=ZS bT [] fo fo 0 λ i=>by rw[Nat.zero_add]
   simp only[Nat.zero_add] at this;have e:qy [rT fo]=some (qx 0 (fo.map bT)):=rfl;rw[<- this];generalize qy=en at *;simp[e]) (by simp;omega) (λ p hp=>by
  have hp':p<last.length:=by rw[<- hl];exact List.mem_range.mp hp
  have h1:=px last p hp';have h2:=RM (fo.getD p []) (last.getD p []);generalize fo.getD p []=x at *;generalize last.getD p []=y at *;generalize rT last=rl at *;generalize decide (x≠y)=d at *;simp only[zp] at h1;cases d <;> simp[h1,h2])
 unfold l6;rw[this,fQ (λ p:Nat=>decide (fo.getD p []≠last.getD p [])) (λ p:Nat=>T.int (p:Int))];rfl
theorem bh {F:zC}(ok:F.Ok):∀ (n:Nat) (pre:List (List Bd)) (last:List Bd) (fr:List Nat) (res:List (List Bd)),St F last fr->qc F n pre last fr=some res->pre.length+n<=10000->∀ (m:Nat),n<m->∀ x3 x4:Option L5.W,
  ∃ fr',xI [3,4] (xS (zc 2)) sN m [some (.im (zx F)),some (.own (.lst ((pre++[last]).map rT))),some (.im (xU fr)),x3,x4]=some (.nx [some (.im (zx F)),some (.own (.lst (res.map rT))),some (.im fr'),none,none])
 | 0,_,_,_,_,_,h,_,_,_,_,_=>by cases h
 | n+1,pre,last,fr,res,s,h,hn,m,hm,x3,x4=>by
  have hend:∀ (m:Nat) (told:List (List Bd)) (x3 x4:Option L5.W),xI [3,4] (xS (zc 2)) sN (m+1) [some (.im (zx F)),some (.own (.lst (told.map rT))),some (.im (xU [])),x3,x4]=some (.nx [some (.im (zx F)),some (.own (.lst (told.map rT))),some (.im (xU [])),none,none]):=λ m told x3 x4=>by
   unfold xI;simp[xU]
  obtain⟨m,rfl⟩:∃ k,m=k+1:=⟨m-1,by omega⟩
  unfold qc at h;by_cases hfr:fr=[]
  .rw[if_pos hfr] at h;cases h;subst hfr;exact⟨_,hend m _ x3 x4⟩
  .rw[if_neg hfr] at h;dsimp only at h;have hlen:=s.len;have n8:=ok.n8;have hF:=N5 ok last fr s.len s.gd;have hlast:zp (.lst ((pre++[last]).map rT)) (.int (-1))=some (rT last):=by
    show L2.yh ((pre++[last]).map rT) (-1)=_;rw[List.map_append];exact lC _ _
   have hc:=λ b c=>OW (zx F) b c last (yx F last fr) (qk ..) (by rw[qk,s.len];omega);have hne:rY (xU fr)=some true:=by
    cases fr with
    | nil=>exact absurd rfl hfr
    | cons a l=>rfl
   have hb:∃ told',sN [some (.im (zx F)),some (.own (.lst ((pre++[last]).map rT))),some (.im (xU fr)),none,none]=some (.nx [some (.im (zx F)),some (.own (.lst (told'.map rT))),some (.im (xU (wc last (yx F last fr)))),some (.im (rT last)),some (.im (rT (yx F last fr)))])/\told'=if wc last (yx F last fr)=[] then pre++[last] else pre++[last]++[yx F last fr]:=by
    have hl2:((pre++[last]).map rT).length<16777216:=by simp;omega
    by_cases hf:wc last (yx F last fr)=[]
    .refine⟨pre++[last],?_,by rw[if_pos hf]⟩;have ht:rY (xU (wc last (yx F last fr)))=some false:=by rw[hf];rfl
     unfold sN;generalize l6=cc at *;generalize nB=ff at *;generalize (pre++[last]).map rT=L1 at *;generalize xU (wc last (yx F last fr))=f2 at *;unfold xU at *;simp only[zp] at hlast;generalize (T.lst (fr.map λ(k:Nat)=>T.int (k:Int)))=f1 at *;generalize rT (yx F last fr)=r2 at *;generalize rT last=r1 at *;simp only[wX] at hlast;simp[-rY,hlast,hF,hc,ht]
    .refine⟨pre++[last]++[yx F last fr],?_,by rw[if_neg hf]⟩;have ht:rY (xU (wc last (yx F last fr)))=some true:=by
      cases e:wc last (yx F last fr) with
      | nil=>exact absurd e hf
      | cons a l=>rfl
     have e2:(pre++[last]++[yx F last fr]).map rT=(pre++[last]).map rT++[rT (yx F last fr)]:=by simp
     rw[e2];unfold sN;generalize l6=cc at *;generalize nB=ff at *;generalize (pre++[last]).map rT=L1 at *;generalize xU (wc last (yx F last fr))=f2 at *;unfold xU at *;simp only[zp] at hlast;generalize (T.lst (fr.map λ(k:Nat)=>T.int (k:Int)))=f1 at *;generalize rT (yx F last fr)=r2 at *;generalize rT last=r1 at *;simp only[wX] at hlast;simp[-rY,hlast,hF,hc,ht,hl2]
   obtain⟨told',hb1,hb2⟩:=hb;have key:∀ R,xI [3,4] (xS (zc 2)) sN m [some (.im (zx F)),some (.own (.lst (told'.map rT))),some (.im (xU (wc last (yx F last fr)))),some (.im (rT last)),some (.im (rT (yx F last fr)))]=R->xI [3,4] (xS (zc 2)) sN (m+1) [some (.im (zx F)),some (.own (.lst ((pre++[last]).map rT))),some (.im (xU fr)),x3,x4]=R:=λ R e=>by
    rw[xI];generalize hbb:sN=bb at *;generalize hlw:xI [3,4] (xS (zc 2)) bb m=lw at *;have hf:yU [3,4] [some (.im (zx F)),some (.own (.lst ((pre++[last]).map rT))),some (.im (xU fr)),x3,x4]=[some (.im (zx F)),some (.own (.lst ((pre++[last]).map rT))),some (.im (xU fr)),none,none]:=rfl;rw[hf];have ht:xS (zc 2) [some (.im (zx F)),some (.own (.lst ((pre++[last]).map rT))),some (.im (xU fr)),none,none]=some true:=by
     generalize xU fr=f1 at *;simp[-rY,hne]
    rw[ht,Option.bind_some,if_pos rfl,hb1,Option.bind_some];exact e
   by_cases hf:wc last (yx F last fr)=[]
   .rw[if_pos hf] at h hb2;cases h;subst hb2;rw[hf] at key;obtain⟨m,rfl⟩:∃ k,m=k+1:=⟨m-1,by omega⟩
    exact⟨_,key _ (hend m _ _ _)⟩
   .rw[if_neg hf] at h hb2;subst hb2;obtain⟨fr',e⟩:=bh ok n (pre++[last]) (yx F last fr) (wc last (yx F last fr)) res (s.next ok) h (by simp;omega) m (by omega) (some (.im (rT last))) (some (.im (rT (yx F last fr))));exact⟨fr',key _ e⟩
theorem N2 {F:zC}(ok:F.Ok):∃ more,nA [zx F]=some (.lst ((RN.start F::more).map rT))/\(∀ r∈RN.start F::more,r.length=F.os.length/\∀ b∈r,Gd F.A F.B b)/\more.length<=2000/\qc F 2000 [] (RN.start F) (List.range F.os.length)=some (RN.start F::more):=by
 have hmu:=aM (RN.start F);have hsl:(RN.start F).length=F.os.length:=by unfold RN.start;simp
 have n8:=ok.n8;have n1:=ok.n1;obtain⟨more,last',e1,e2,_,e4⟩:=bj ok 2000 [] (RN.start F) (List.range F.os.length) (St.start ok) (by omega);obtain⟨fr',e⟩:=bh ok 2000 [] (RN.start F) (List.range F.os.length) _ (St.start ok) e1 (by simp) 1000000 (by decide) none none;refine⟨more,?_,e2,by omega,e1⟩;have hp:=dM F;have hst:rT (RN.start F)=.lst (List.replicate F.os.length (.tup [.tup [.int 0,.int 0]])):=by
  unfold rT RN.start;rw[List.map_replicate];rfl
 have hmul:wo (.lst [.tup [.tup [.int 0,.int 0]]]) (.int F.os.length)=some (rT (RN.start F)):=by
  rw[hst];unfold wo;dsimp only;rw[if_pos ⟨by simp,by omega,by omega,Qe (by simp;omega)⟩];have:∀ n:Nat,(List.replicate n [T.tup [.tup [.int 0,.int 0]]]).flatten=List.replicate n (.tup [.tup [.int 0,.int 0]]):=λ n=>by
   induction n with
   | zero=>rfl
   | succ n ih=>rw[List.replicate_succ,List.replicate_succ,List.flatten_cons,ih];rfl
  rw[Int.toNat_natCast,this]
 have hrg:mI [.int F.os.length]=some (xU (List.range F.os.length)):=by
  show (if 0<=(F.os.length:Int)/\(F.os.length:Int)<=16777216 then some (T.lst (rangeT 0 (F.os.length:Int).toNat)) else none)=_;rw[if_pos ⟨by omega,by omega⟩];show some (T.lst ((List.range (F.os.length:Int).toNat).map λ(k:Nat)=>T.int (0+(k:Int))))=_;rw[Int.toNat_natCast];unfold xU;simp
 unfold nA XQ sX;generalize sN=bb at *;generalize rO=ff at *;generalize mI=lr at *;simp only[List.nil_append,List.map_cons,List.map_nil] at e;generalize xU (List.range F.os.length)=f1 at *;rw[List.map_cons];generalize rT (RN.start F)=r0 at *;generalize zx F=fl at *;generalize hlw:xI [3,4] (xS (zc 2)) bb 1000000=lw at *;generalize wo=mw at *;simp[hp,hmul,hrg,e]
end yE
namespace yE
open PySem L2 L3 L5 RN
theorem aL (i j:Int):wo (.int i) (.int j)=if ve i j then some (.int (i*j)) else none:=rfl
theorem QF {r:List Int}{rs:List (List Int)}:uN ((r::rs).map yB)=none:=rfl
theorem Vt (rs:List (List Int)) (h0:rs≠[]) (hl:rs.length<64) (hn:∀ r∈rs,r≠[]):qO [.lst (rs.map yB)]=some (.lst ((L4.wA (vh rs)).map yB)):=by
 cases rs with
 | nil=>exact absurd rfl h0
 | cons r rs=>
  show (match uN ((r::rs).map yB) with
   | some ns=>if ns.length<64 then some (T.lst ((vn ns).map T.int)) else none
   | none=>kj [T.lst ((r::rs).map yB)])=_
  rw[QF];show (xH ((r::rs).map yB)).bind _=_;rw[gu,Option.bind_some,if_pos ⟨hl,hn⟩]
theorem eB (ns:List Int) (k:Nat):0<=cell ns k:=by
 unfold cell;split
 .exact Int.emod_nonneg _ (by decide)
 .exact Int.le_refl _
theorem mv {L:List T}{P:Int->Prop}(hP:∀ y∈L,∃ v,y=.int v/\P v) {i:Int}(h0:0<=i) (h1:i<L.length):∃ v,L2.yh L i=some (.int v)/\P v:=by
 have hl:i.toNat<L.length:=by omega
 have e:L2.yh L i=some L[i.toNat]:=by
  have:=wQ (k:=i.toNat) (List.getElem?_eq_getElem hl);rw[Int.toNat_of_nonneg h0] at this;exact this
 obtain⟨v,e2,hv⟩:=hP _ (List.getElem_mem hl);exact⟨v,by rw[e,e2],hv⟩
theorem Xj (x:Int):∃ y,rQ [.int x]=some (.int y):=by
 have d5:wI x 5:=⟨by decide,by decide⟩
 by_cases h:x%5=1
 .exact⟨_,by simp[rQ,cg,eq_int,h,d5];rfl⟩
 .exact⟨_,by simp[rQ,cg,eq_int,h,d5];rfl⟩
theorem N4 (ns:List Int) (many:Nat) (hm:many<=8):∃ os:List Bool,nH [yv ns,.int many]=some (.tup (os.map kt))/\os.length=many:=by
 have hc:=nP ns 2;generalize cell ns 2=num at *;obtain⟨ρ',h1,c,os,h2,h3⟩:=tI (is:=[4]) (g:=zK 4) (b:=jD) (λ k:Nat=>T.int (0+(k:Int))) (λ p ρ=>∃ (c:Int) (os:List Bool),ρ=[some (.im (yv ns)),some (.im (.int many)),some (.im (.int c)),some (.own (.lst (os.map kt))),none]/\os.length=p.length)
   (List.range many) [some (.im (yv ns)),some (.im (.int many)),some (.im (.int num)),some (.own (.lst [])),none] ⟨num,[],rfl,rfl⟩ (by
  rintro p k q e ρ ⟨c,os,rfl,r1⟩;have hp:p.length<many:=by have:=congrArg List.length e;simp at this;omega
  have hl:(os.map kt).length<16777216:=by simp;omega
  have d2:wI c 2:=⟨by decide,by decide⟩
  have pk:∃ b:Bool,L2.yh [T.str "keeper",T.str "taker"] (c%2)=some (kt b):=by
   rcases Int.emod_two_eq c with h | h <;> rw[h]
   .exact⟨true,rfl⟩
   .exact⟨false,rfl⟩
  obtain⟨b,hb⟩:=pk;refine⟨[some (.im (yv ns)),some (.im (.int many)),some (.im (.int (c/2))),some (.own (.lst ((os++[b]).map kt))),some (.im (.int (0+(k:Int))))],?_,c/2,os++[b],by simp,by simp[r1]⟩;have e2:(os++[b]).map kt=os.map kt++[kt b]:=by simp
  rw[e2];unfold turn jD;generalize (T.str "keeper")=s1 at *;generalize (T.str "taker")=s2 at *;generalize kt b=kb at *;generalize os.map kt=L at *;generalize (0+(k:Int))=kk at *;simp[hb,hl,d2])
 subst h2;have hr:=qU many (by omega);refine⟨os,?_,by simpa using h3⟩;unfold nH Wa;generalize jD=bb at *;generalize os.map kt=L at *;generalize (List.range many).map (λ(k:Nat)=>T.int (0+(k:Int)))=R at *;have hc':xQ [yv ns,.int 2]=some (.int num):=hc;generalize xQ=fc at *;generalize yv ns=sc at *;simp[hc',hr,h1]
def lW (A B:Int):Prop:=(0<=A/\A<=12)/\(0<=B/\B<=12)/\((A=12/\B=12)\/(A+1)*(B+1)<64)
theorem lW.small {A B:Int}(h:0<=A/\A<=5) (h':0<=B/\B<=5):lW A B:=by
 refine⟨⟨h.1,by omega⟩,⟨h'.1,by omega⟩,.inr ?_⟩;have:(A+1)*(B+1)<=6*6:=Int.mul_le_mul (by omega) (by omega) (by omega) (by decide);omega
theorem NM (ns:List Int) (many:Nat):∃ A B:Int,nK [yv ns,.int many]=some (.tup [.int A,.int B])/\lW A B:=by
 have hc:=nP ns 1;have c0:=eB ns 1;generalize cell ns 1=num at *;have hc':xQ [yv ns,.int 1]=some (.int num):=hc;have d8:wI num 8:=⟨by decide,by decide⟩
 have d64:wI num 64:=⟨by decide,by decide⟩
 obtain⟨x,hx,x0,x5⟩:=mv (L:=[T.int 3,.int 2,.int 4,.int 1,.int 5,.int 2,.int 3,.int 0]) (P:=λ v=>0<=v/\v<=5) (by intro y hy;simp only[List.mem_cons,List.mem_nil_iff,or_false] at hy;rcases hy with rfl | rfl | rfl | rfl | rfl | rfl | rfl | rfl <;> exact⟨_,rfl,by decide,by decide⟩) (i:=num%8) (by omega) (by simp;omega);obtain⟨y,hy,y0,y5⟩:=mv (L:=[T.int 2,.int 3,.int 1,.int 4,.int 2,.int 5,.int 3,.int 0]) (P:=λ v=>0<=v/\v<=5) (by intro y hy;simp only[List.mem_cons,List.mem_nil_iff,or_false] at hy;rcases hy with rfl | rfl | rfl | rfl | rfl | rfl | rfl | rfl <;> exact⟨_,rfl,by decide,by decide⟩) (i:=num/8%8) (by omega) (by simp;omega);have mn:∀ v:Int,0<=v->0<=(if 2<v then 2 else v)/\(if 2<v then 2 else v)<=5:=λ v hv=>by split <;> omega
 unfold nK We;generalize xQ=fc at *;generalize yv ns=sc at *;by_cases h1:many>4
 .refine⟨_,_,?_,lW.small (mn x x0) (mn y y0)⟩;have h1':(4:Int)<many:=by omega
  simp[hc',hx,hy,d8,h1',p7]
 .have h1':¬ (4:Int)<many:=by omega
  by_cases h2:num/64%10=1
  .refine⟨12,y%3,?_,⟨⟨by decide,by decide⟩,⟨by omega,by omega⟩,.inr (by omega)⟩⟩;simp[hc',hx,hy,d8,h1',d64,eq_int,h2]
  .by_cases h3:num/64%10=2
   .refine⟨x%3,12,?_,⟨⟨by omega,by omega⟩,⟨by decide,by decide⟩,.inr (by omega)⟩⟩;simp[hc',hx,hy,d8,h1',d64,eq_int,h3]
   .by_cases h4:num/64%10=3/\many<3
    .refine⟨12,12,?_,⟨⟨by decide,by decide⟩,⟨by decide,by decide⟩,.inl ⟨rfl,rfl⟩⟩⟩;have h5:(many:Int)<3:=by omega
     simp[hc',hx,hy,d8,h1',d64,eq_int,h4.1,h5,yH]
    .refine⟨x,y,?_,lW.small ⟨x0,x5⟩ ⟨y0,y5⟩⟩;by_cases h6:num/64%10=3
     .have h5:¬ (many:Int)<3:=by omega
      simp[hc',hx,hy,d8,h1',d64,eq_int,h6,h5,yH]
     .simp[hc',hx,hy,d8,h1',d64,eq_int,h2,h3,h6]
end yE
namespace yE
open PySem L2 L3 L5 RN
theorem seq_eq {a b:Sm}{ρ ρ':Ev}(h:a ρ=some (.nx ρ')):zy a b ρ=b ρ':=by
 show (a ρ).bind _=_;rw[h];rfl
theorem qZ {f:T->T->Option T}{fa fb:Ev->Option T}{ρ:Ev}{x y:T}{r:Option T}(h1:fa ρ=some x) (h2:fb ρ=some y) (h:f x y=r):zb f fa fb ρ=r:=by
 show (fa ρ).bind _=r;rw[h1];show (fb ρ).bind _=r;rw[h2];exact h
theorem YN {i:Nat}{f:Ev->Option T}{ρ:Ev}{y:T}(h:f ρ=some y):zN i f ρ=some (.nx (ρ.set i (some (.im y)))):=by
 show (f ρ).map _=_;rw[h];rfl
theorem mG {i j:Int}(h:ve i j):wo (.int i) (.int j)=some (.int (i*j)):=by rw[aL,if_pos h]
def pV (many:Nat) (r:List Int):Prop:=∃ (f t:Nat) (a b:Int),r=[(f:Int),(t:Int),a,b]/\f<many/\t<many
theorem Wx (M C:Int) (hM:0<M) (hC:∀ i,ve i C) (bb:Sm) (hbb:bb=(zy (zN 8 (zb yQ (zb wo (zc 3) (zc 5)) (zc 7)))
 (zy (zN 9 (zb yt (zb yQ (zb yQ (zb wo (zD xQ (ze (zt 0) (ze (zb yQ (cS (.int 4)) (zc 8)) zq))) (cS (.int C))) (zb wo (cS (.int 61)) (zc 8))) (cS (.int 17))) (cS (.int M))))
 (zy (zN 10 (zb xv (zc 9) (cS (.int 8))))
 (u_ 4 (tupS (ze (zt 5) (ze (zb yt (zb yt (zc 9) (cS (.int 8))) (zc 1)) (ze (zD rQ (ze (zt 10) zq)) (ze (zD rQ (ze (zb xv (zc 10) (cS (.int 125))) zq)) zq))))))))))
  (ns:List Int) (many wide place k:Nat) (num sz:Int) (rows:List T) (hm:1<=many) (hp:place<many) (hw:wide<=12) (hm8:many<=8) (hl:rows.length<=1000):
  ∃ r x y z,(pV many r/\r.head?=some (place:Int))/\turn (zK 7) bb (.int (0+(k:Int))) [some (.im (yv ns)),some (.im (.int many)),some (.im (.int num)),some (.im (.int wide)),some (.own (.lst rows)),some (.im (.int place)),some (.im (.int sz)),none,none,none,none]
   = some (.nx [some (.im (yv ns)),some (.im (.int many)),some (.im (.int num)),some (.im (.int wide)),some (.own (.lst (rows++[yB r]))),some (.im (.int place)),some (.im (.int sz)),some (.im (.int (0+(k:Int)))),x,y,z]):=by
 obtain⟨at',hat⟩:∃ at':Nat,(wide:Int)*(place:Int)+(0+(k:Int))=(at':Int):=⟨wide*place+k,by simp[Int.natCast_add,Int.natCast_mul]⟩
 have hc:=nP ns (4+at');rw[Int.natCast_add] at hc;have hc':xQ [yv ns,.int (4+(at':Int))]=some (.int (cell ns (4+at'))):=hc;generalize cell ns (4+at')=ce at *;have m1:ve (wide:Int) (place:Int):=.inl ⟨by omega,by omega⟩;have m2:ve ce C:=hC ce;have m3:ve 61 (at':Int):=.inl ⟨by decide,by decide⟩;generalize hd:(ce*C+61*(at':Int)+17)%M=dr;have d8:wI dr 8:=⟨by decide,by decide⟩
 have d125:wI (dr/8) 125:=⟨by decide,by decide⟩
 obtain⟨a,ha⟩:=Xj (dr/8);obtain⟨b,hb⟩:=Xj (dr/8/125);have hmp:(0:Int)<many:=by omega
 have t0:0<=dr%8%many:=Int.emod_nonneg _ (by omega);have t1:dr%8%many<many:=Int.emod_lt_of_pos _ hmp;have hm':0<many:=hm;have hl':rows.length<16777216:=by omega
 refine⟨[(place:Int),((dr%8%many).toNat:Int),a,b],some (.im (.int (at':Int))),some (.im (.int dr)),some (.im (.int (dr/8))),⟨⟨place,(dr%8%many).toNat,a,b,rfl,hp,by omega⟩,rfl⟩,?_⟩;rw[Int.toNat_of_nonneg t0];have hr:yB [(place:Int),dr%8%many,a,b]=.tup [.int place,.int (dr%8%many),.int a,.int b]:=rfl;rw[hr];rw[show turn (zK 7) bb (.int (0+(k:Int))) [some (.im (yv ns)),some (.im (.int many)),some (.im (.int num)),some (.im (.int wide)),some (.own (.lst rows)),some (.im (.int place)),some (.im (.int sz)),none,none,none,none]=bb [some (.im (yv ns)),some (.im (.int many)),some (.im (.int num)),some (.im (.int wide)),some (.own (.lst rows)),some (.im (.int place)),some (.im (.int sz)),some (.im (.int (0+(k:Int)))),none,none,none] from rfl];subst hbb;generalize (0+(k:Int))=kk at *;generalize xQ=fc at *;generalize rQ=fco at *;generalize yv ns=sc at *;rw[seq_eq (ρ':=[some (.im sc),some (.im (.int many)),some (.im (.int num)),some (.im (.int wide)),some (.own (.lst rows)),some (.im (.int place)),some (.im (.int sz)),some (.im (.int kk)),some (.im (.int at')),none,none]) (YN (qZ (qZ (x:=.int wide) (y:=.int place) rfl rfl (mG m1)) (y:=.int kk) rfl (by show some (T.int ((wide:Int)*(place:Int)+kk))=_;rw[hat])))];rw[seq_eq (ρ':=[some (.im sc),some (.im (.int many)),some (.im (.int num)),some (.im (.int wide)),some (.own (.lst rows)),some (.im (.int place)),some (.im (.int sz)),some (.im (.int kk)),some (.im (.int at')),some (.im (.int dr)),none]) (by simp[aL,hc',m2,m3,hd,hM])];rw[seq_eq (ρ':=[some (.im sc),some (.im (.int many)),some (.im (.int num)),some (.im (.int wide)),some (.own (.lst rows)),some (.im (.int place)),some (.im (.int sz)),some (.im (.int kk)),some (.im (.int at')),some (.im (.int dr)),some (.im (.int (dr/8)))]) (by simp[d8])];simp[d125,ha,hb,hm',hl']
theorem Wz (ns:List Int) (many wide place k:Nat) (num sz:Int) (rows:List T) (hm:1<=many) (hp:place<many) (hw:wide<=12) (hm8:many<=8) (hl:rows.length<=1000):
  ∃ r x y z,(pV many r/\r.head?=some (place:Int))/\turn (zK 7) o_ (.int (0+(k:Int))) [some (.im (yv ns)),some (.im (.int many)),some (.im (.int num)),some (.im (.int wide)),some (.own (.lst rows)),some (.im (.int place)),some (.im (.int sz)),none,none,none,none]
   = some (.nx [some (.im (yv ns)),some (.im (.int many)),some (.im (.int num)),some (.im (.int wide)),some (.own (.lst (rows++[yB r]))),some (.im (.int place)),some (.im (.int sz)),some (.im (.int (0+(k:Int)))),x,y,z]):=
 by
  refine Wx 999983 2957 ?_ ?_ o_ ?_ ns many wide place k num sz rows hm hp hw hm8 hl
  .omega
  .exact λ _=>.inr ⟨by omega,by omega⟩
  .unfold o_;rfl
theorem Nw (ns:List Int) (many:Nat) (hm:1<=many) (hm8:many<=8):∃ ws:List Wy,nE [yv ns,.int many]=some (.tup (ws.map zT))/\ws.length<=60/\(∀ w∈ws,w.f<many/\w.t<many)/\∀ x<many,∃ w∈ws,w.f=x:=by
 have hc:=nP ns 3;have c0:=eB ns 3;generalize cell ns 3=num at *;have hc':xQ [yv ns,.int 3]=some (.int num):=hc;obtain⟨wide,hw,hw12⟩:∃ wide:Nat,L2.yh [T.int 3,.int 12] (if many<3 then 1 else 0)=some (.int (wide:Int))/\wide<=12:=by
  by_cases h:many<3
  .rw[if_pos h];exact⟨12,rfl,by decide⟩
  .rw[if_neg h];exact⟨3,rfl,by decide⟩
 obtain⟨ρ',h1,c,rows,h2,h3,h4,h5⟩:=tI (is:=[5,6,7,8,9,10]) (g:=zK 5) (b:=jB) (λ k:Nat=>T.int (0+(k:Int))) (λ p ρ=>∃ (c:Int) (rows:List (List Int)),ρ=[some (.im (yv ns)),some (.im (.int many)),some (.im (.int c)),some (.im (.int wide)),some (.own (.lst (rows.map yB))),none,none,none,none,none,none]/\0<=c/\rows.length<=(if many<3 then 12 else 3)*p.length/\((∀ r∈rows,pV many r)/\(∀ x∈p,∃ r∈rows,r.head?=some (x:Int))))
   (List.range many) [some (.im (yv ns)),some (.im (.int many)),some (.im (.int num)),some (.im (.int wide)),some (.own (.lst [])),none,none,none,none,none,none] ⟨num,[],rfl,c0,by simp,nofun,nofun⟩ (by
  rintro p k q e ρ ⟨c,rows,rfl,r0,r1,r2,r3⟩;have hp:p.length<many:=by have:=congrArg List.length e;simp at this;omega
  have hk:k<many:=List.mem_range.mp (by rw[e];simp);obtain⟨size,hs,s1,s2⟩:∃ size:Nat,(if (many<3/\c/3%8=1) then 9+(1+c%3) else 1+c%3)=(size:Int)/\1<=size/\size<=(if many<3 then 12 else 3):=by
   by_cases h:many<3/\c/3%8=1
   .rw[if_pos h,if_pos h.1];exact⟨(9+(1+c%3)).toNat,by omega,by omega,by omega⟩
   .rw[if_neg h];exact⟨(1+c%3).toNat,by omega,by omega,by split <;> omega⟩
  have hbig:(if many<3 then 12 else 3)*p.length<=96:=by split <;> omega
  obtain⟨ρ2,g1,rows',g2,g3,g4,g5,g6⟩:=tI (is:=[7,8,9,10]) (g:=zK 7) (b:=o_) (λ k:Nat=>T.int (0+(k:Int))) (λ p' ρ=>∃ rows':List (List Int),ρ=[some (.im (yv ns)),some (.im (.int many)),some (.im (.int c)),some (.im (.int wide)),some (.own (.lst (rows'.map yB))),some (.im (.int k)),some (.im (.int size)),none,none,none,none]/\rows'.length=rows.length+p'.length/\(∀ r∈rows',pV many r)/\(∀ r∈rows,r∈rows')/\(p'≠[]->∃ r∈rows',r.head?=some (k:Int)))
    (List.range size) [some (.im (yv ns)),some (.im (.int many)),some (.im (.int c)),some (.im (.int wide)),some (.own (.lst (rows.map yB))),some (.im (.int k)),some (.im (.int size)),none,none,none,none] ⟨rows,rfl,rfl,r2,λ _ h=>h,λ h=>absurd rfl h⟩ (by
   rintro p' k' q' e' ρ ⟨rows',rfl,u1,u2,u3,u4⟩;have hp':p'.length<size:=by have:=congrArg List.length e';simp at this;omega
   have hs12:size<=12:=by split at s2 <;> omega
   obtain⟨r,x,y,z,⟨v1,v3⟩,v2⟩:=Wz ns many wide k k' c size (rows'.map yB) hm hk hw12 hm8 (by simp;omega);refine⟨_,v2,rows'++[r],by simp,by simp[u1];omega,λ r' hr'=>?_,λ r' h=>List.mem_append_left _ (u3 r' h),λ _=>⟨r,by simp,v3⟩⟩;rcases List.mem_append.mp hr' with h | h
   .exact u2 r' h
   .cases List.mem_singleton.mp h;exact v1)
  subst g2;have hrg:=qU size (by split at s2 <;> omega);have d3:wI c 3:=⟨by decide,by decide⟩
  have d24:wI c 24:=⟨by decide,by decide⟩
  refine⟨[some (.im (yv ns)),some (.im (.int many)),some (.im (.int (c/24))),some (.im (.int wide)),some (.own (.lst (rows'.map yB))),some (.im (.int (0+(k:Int)))),some (.im (.int size)),none,none,none,none],?_,c/24,rows',by simp,by omega,?_,g4,λ x hx=>?_⟩
  .unfold turn jB;generalize o_=bb at *;simp only[Int.zero_add] at g1 hrg ⊢;generalize (List.range size).map (λ(k:Nat)=>T.int (k:Int))=RR at *;generalize rows'.map yB=L2' at *;generalize rows.map yB=L1' at *;generalize yv ns=sc at *;by_cases hA:many<3
   .have hA':(many:Int)<3:=by omega
    by_cases hB:c/3%8=1
    .rw[if_pos ⟨hA,hB⟩] at hs;simp[hA',hB,d3,d24,yH,eq_int,hs,hrg,g1]
    .rw[if_neg (λ h=>hB h.2)] at hs;simp[hA',hB,d3,d24,yH,eq_int,hs,hrg,g1]
   .have hA':¬ (many:Int)<3:=by omega
    rw[if_neg (λ h=>hA h.1)] at hs;simp[hA',d3,d24,yH,eq_int,hs,hrg,g1]
  .have:rows'.length=rows.length+size:=by simpa using g3
   rw[List.length_append,List.length_singleton,Nat.mul_add,Nat.mul_one];omega
  .rcases List.mem_append.mp hx with h | h
   .obtain⟨r,h1,h2⟩:=r3 x h;exact⟨r,g5 r h1,h2⟩
   .cases List.mem_singleton.mp h;exact g6 (λ h=>by have:=congrArg List.length h;simp at this;omega))
 subst h2;have hrg:=qU many (by omega);have hlen:rows.length<64:=by
  rw[List.length_range] at h4;split at h4 <;> omega
 have hne:rows≠[]:=λ h=>by
  obtain⟨r,hr,_⟩:=h5.2 0 (List.mem_range.mpr (by omega));rw[h] at hr;cases hr
 have hrow:∀ r∈rows,r≠[]:=λ r hr=>by obtain⟨f,t,a,b,rfl,_⟩:=h5.1 r hr;simp
 have hss:=Vt rows hne hlen hrow;have hall:∀ r∈L4.wA (vh rows),pV many r:=λ r hr=>h5.1 r (oA.mp ((L4.t4 _).mem_iff.mp hr));have hl60:(L4.wA (vh rows)).length<64:=by rw[(L4.t4 _).length_eq];have:=kU rows;omega
 have conv:∀ l:List (List Int),(∀ r∈l,pV many r)->∃ ws:List Wy,l.map yB=ws.map zT/\ws.length=l.length/\(∀ w∈ws,w.f<many/\w.t<many)/\∀ r∈l,∃ w∈ws,r.head?=some (w.f:Int):=λ l=>by
  induction l with
  | nil=>exact λ _=>⟨[],rfl,rfl,nofun,nofun⟩
  | cons r l ih=>
   intro h;obtain⟨ws,e1,e2,e3,e4⟩:=ih λ x hx=>h x (zMo _ hx);obtain⟨f,t,a,b,rfl,hf,ht⟩:=h r zMc;refine⟨⟨f,t,a,b⟩::ws,by rw[List.map_cons,List.map_cons,e1];rfl,by simp[e2],λ w hw=>?_,λ r' hr'=>?_⟩
   .rcases List.mem_cons.mp hw with x | x
    .subst x;exact⟨hf,ht⟩
    .exact e3 w x
   .rcases List.mem_cons.mp hr' with x | x
    .subst x;exact⟨_,zMc,rfl⟩
    .obtain⟨w,h1,h2⟩:=e4 r' x;exact⟨w,zMo _ h1,h2⟩
 obtain⟨ws,e1,e2,e3,e4⟩:=conv _ hall;refine⟨ws,?_,by
  have hn:(vh rows).length<=rows.length:=kU rows;rw[e2,(L4.t4 _).length_eq];rw[List.length_range] at h4;split at h4 <;> omega,e3,λ x hx=>by
   obtain⟨r,k1,k2⟩:=h5.2 x (List.mem_range.mpr hx);obtain⟨w,k3,k4⟩:=e4 r ((L4.t4 _).mem_iff.mpr (oA.mpr k1));rw[k2] at k4
   injection k4 with k4
   exact⟨w,k3,by omega⟩⟩
 rw[e1] at hss;unfold nE XY;generalize jB=bb at *;generalize ws.map zT=L1 at *;generalize rows.map yB=L2' at *;generalize qO=sv at *;generalize (List.range many).map (λ(k:Nat)=>T.int (0+(k:Int)))=RR at *;generalize xQ=fc at *;generalize yv ns=sc at *;by_cases hA:many<3
 .have hA':(many:Int)<3:=by omega
  rw[if_pos hA] at hw;simp[hc',yH,hA',hw,hrg,h1,hss]
 .have hA':¬ (many:Int)<3:=by omega
  rw[if_neg hA] at hw;simp[hc',yH,hA',hw,hrg,h1,hss]
end yE
namespace yE
open PySem L2 L3 L5 RN
theorem fV (x y:Str):zM false (.str x) (.str y)=some (.bl (x == y)):=by simp[zM,dep,eqT]
theorem Vr (M C:Int) (hM:0<M) (hC:∀ i,ve i C) (kk:Str) (bb:Sm) (hbb:bb=(zy (zN 4 (zb yt (zb yQ (zb yQ (zb wo (zD xQ (ze (zt 0) (ze (zb yQ (cS (.int 28)) (zc 3)) zq))) (cS (.int C))) (zb wo (cS (.int 29)) (zc 3))) (cS (.int 5))) (cS (.int M))))
 (yG (tQ (zR (zb (zM false) (zb zp (zc 1) (zc 3)) (cS (.str kk)))) (zR (zb (zM false) (zb yt (zc 4) (cS (.int 3))) (cS (.int 1))))) (zy (zN 5 (zb xv (zc 4) (cS (.int 6))))
 (zy (zN 6 (zb yQ (cS (.int 1)) (zb zp (wq (ze (zb yt (zc 5) (cS (.int 3))) (ze (zb yt (zc 5) (cS (.int 3))) (ze (zb yt (zc 5) (cS (.int 12))) zq)))) (zb yt (zb xv (zc 5) (cS (.int 12))) (cS (.int 3))))))
 (zy (zN 7 (zb zp (wq (ze (zb yt (zb xv (zc 5) (cS (.int 36))) (cS (.int 4))) (ze (zb yt (zb xv (zc 5) (cS (.int 36))) (cS (.int 4))) (ze (zb yt (zb xv (zc 5) (cS (.int 36))) (cS (.int 13))) zq)))) (zb yt (zb xv (zc 5) (cS (.int 468))) (cS (.int 3)))))
 (u_ 2 (tupS (ze (zt 3) (ze (zb yt (zb xv (zc 4) (cS (.int 3))) (cS (.int 2))) (ze (zt 6) (ze (zt 7) zq))))))))) yF)))
  (ns:List Int) (ots:List T) (place:Nat) (s:Str) (hs:L2.yh ots (place:Int)=some (.str s)) (rows:List T) (hl:rows.length<=1000):
  ∃ more:List Sl,more.length<=1/\(∀ x∈more,(1<=x.gv/\0<=x.gt)/\x.p=place)/\∃ a b c d,turn (zK 3) bb (.int (place:Int)) [some (.im (yv ns)),some (.im (.tup ots)),some (.own (.lst rows)),none,none,none,none,none]
   = some (.nx [some (.im (yv ns)),some (.im (.tup ots)),some (.own (.lst (rows++more.map yA))),some (.im (.int (place:Int))),a,b,c,d]):=by
 have hc:=nP ns (28+place);rw[Int.natCast_add] at hc;have hc':xQ [yv ns,.int (28+(place:Int))]=some (.int (cell ns (28+place))):=hc;generalize cell ns (28+place)=ce at *;have m2:ve ce C:=hC ce;have m3:ve 29 (place:Int):=.inl ⟨by decide,by decide⟩;generalize hd:(ce*C+29*(place:Int)+5)%M=dr;have hdr:0<=dr:=by rw[<- hd];exact Int.emod_nonneg _ (by omega)
 have d6:wI dr 6:=⟨by decide,by decide⟩
 have d3:wI dr 3:=⟨by decide,by decide⟩
 have r0:0<=dr/6:=by omega
 generalize hrs:dr/6=rs at *;have d12:wI rs 12:=⟨by decide,by decide⟩
 have d36:wI rs 36:=⟨by decide,by decide⟩
 have d468:wI rs 468:=⟨by decide,by decide⟩
 obtain⟨gv,hg,g0⟩:=mv (L:=[T.int (rs%3),.int (rs%3),.int (rs%12)]) (P:=λ v=>0<=v) (by intro y hy;simp only[List.mem_cons,List.mem_nil_iff,or_false] at hy;rcases hy with rfl | rfl | rfl <;> exact⟨_,rfl,by omega⟩) (i:=rs/12%3) (by omega) (by simp;omega);obtain⟨gt,ht,t0⟩:=mv (L:=[T.int (rs/36%4),.int (rs/36%4),.int (rs/36%13)]) (P:=λ v=>0<=v) (by intro y hy;simp only[List.mem_cons,List.mem_nil_iff,or_false] at hy;rcases hy with rfl | rfl | rfl <;> exact⟨_,rfl,by omega⟩) (i:=rs/468%3) (by omega) (by simp;omega);have hl':rows.length<16777216:=by omega
 rw[show turn (zK 3) bb (.int (place:Int)) [some (.im (yv ns)),some (.im (.tup ots)),some (.own (.lst rows)),none,none,none,none,none]=bb [some (.im (yv ns)),some (.im (.tup ots)),some (.own (.lst rows)),some (.im (.int (place:Int))),none,none,none,none] from rfl];subst hbb;generalize xQ=fc at *;generalize yv ns=sc at *;rw[seq_eq (ρ':=[some (.im sc),some (.im (.tup ots)),some (.own (.lst rows)),some (.im (.int (place:Int))),some (.im (.int dr)),none,none,none]) (YN (qZ (x:=.int (ce*C+29*(place:Int)+5)) (y:=.int M) (qZ (qZ (qZ (x:=.int ce) (y:=.int C) (by
   show ((ze (zt 0) (ze (zb yQ (cS (.int 28)) (zc 3)) zq)) _).bind fc=_;exact hc') rfl (mG m2)) (qZ (x:=.int 29) (y:=.int place) rfl rfl (mG m3)) rfl) rfl rfl) rfl (by
   show (if 0<M then some (T.int ((ce*C+29*(place:Int)+5)%M)) else none)=_;rw[if_pos hM,hd])))]
 by_cases hk:(s == kk)=true/\dr%3=1
 .refine⟨[⟨place,decide (dr/3%2=1),1+gv,gt⟩],by simp,λ x hx=>by cases List.mem_singleton.mp hx;exact⟨⟨by show 1<=1+gv;omega,t0⟩,rfl⟩,some (.im (.int dr)),some (.im (.int rs)),some (.im (.int (1+gv))),some (.im (.int gt)),?_⟩;have hpu:wB (decide (dr/3%2=1))=dr/3%2:=by
   unfold wB;rcases Int.emod_two_eq (dr/3) with h | h <;> simp[h]
  have hsl:yA ⟨place,decide (dr/3%2=1),1+gv,gt⟩=.tup [.int place,.int (dr/3%2),.int (1+gv),.int gt]:=by
   unfold yA;rw[hpu]
  rw[List.map_cons,List.map_nil,hsl];simp[hs,fV,hk.1,eq_int,hk.2,d6,d3,hrs,d12,d36,d468,hg,ht,hl']
 .refine⟨[],by simp,nofun,some (.im (.int dr)),none,none,none,?_⟩;rw[List.map_nil,List.append_nil];by_cases h1:(s == kk)=true
  .have h2:¬ dr%3=1:=λ h=>hk ⟨h1,h⟩;simp[hs,fV,h1,eq_int,h2]
  .rw[Bool.not_eq_true] at h1;simp[hs,fV,h1]
theorem Nz (ns:List Int) (os:List Bool) (h8:os.length<=8):∃ ss:List Sl,nF [yv ns,.tup (os.map kt)]=some (.tup (ss.map yA))/\ss.length<=60/\(∀ s∈ss,1<=s.gv/\0<=s.gt)/\ss.Pairwise (λ a b=>a.p≠b.p):=by
 obtain⟨ρ',h1,ss,h2,h3,h4,h5,h6⟩:=tI (is:=[3,4,5,6,7]) (g:=zK 3) (b:=lA) (λ k:Nat=>T.int (k:Int)) (λ p ρ=>∃ ss:List Sl,ρ=[some (.im (yv ns)),some (.im (.tup (os.map kt))),some (.own (.lst (ss.map yA))),none,none,none,none,none]/\ss.length<=p.length/\(∀ s∈ss,1<=s.gv/\0<=s.gt)/\(∀ s∈ss,s.p∈p)/\ss.Pairwise (λ a b=>a.p≠b.p))
   (List.range os.length) [some (.im (yv ns)),some (.im (.tup (os.map kt))),some (.own (.lst [])),none,none,none,none,none] ⟨[],rfl,Nat.le_refl _,nofun,nofun,List.Pairwise.nil⟩ (by
  rintro p k q e ρ ⟨ss,rfl,r1,r2,r3,r4⟩;have hp:p.length<os.length:=by have:=congrArg List.length e;simp at this;omega
  have hk:k<os.length:=List.mem_range.mp (by rw[e];simp);obtain⟨s,hs⟩:∃ s:Str,L2.yh (os.map kt) (k:Int)=some (.str s):=by
   cases hb:os[k] with
   | true=>exact⟨"keeper",wQ (by rw[List.getElem?_map,List.getElem?_eq_getElem hk,hb];rfl)⟩
   | false=>exact⟨"taker",wQ (by rw[List.getElem?_map,List.getElem?_eq_getElem hk,hb];rfl)⟩
  obtain⟨more,m1,m2,a,b,c,d,m3⟩:=Vr 999979 3571 (by omega) (λ _=>.inr ⟨by omega,by omega⟩) "keeper" lA (by unfold lA;rfl) ns (os.map kt) k s hs (ss.map yA) (by simp;omega);refine⟨_,m3,ss++more,by simp,by simp;omega,λ x hx=>?_,λ x hx=>?_,?_⟩
  .rcases List.mem_append.mp hx with h | h
   .exact r2 x h
   .exact (m2 x h).1
  .rcases List.mem_append.mp hx with h | h
   .exact List.mem_append_left _ (r3 x h)
   .rw[(m2 x h).2];simp
  .have hnd:=List.nodup_range (n:=os.length);rw[e] at hnd;refine List.pairwise_append.mpr ⟨r4,?_,λ a ha b hb=>?_⟩
   .match more,m1 with
    | [],_=>exact List.Pairwise.nil
    | [_],_=>exact List.pairwise_singleton _ _
    | _::_::_,m=>simp at m
   .rw[(m2 b hb).2];exact (List.nodup_append.mp hnd).2.2 a.p (r3 a ha) k zMc)
 subst h2;rw[List.length_range] at h3;refine⟨ss,?_,by omega,h4,h6⟩;have hr:=qU os.length (by omega);simp only[Int.zero_add] at hr;unfold nF XZ;generalize lA=bb at *;generalize (List.range os.length).map (λ(k:Nat)=>T.int (k:Int))=R at *;have hlen:(os.map kt).length=os.length:=by simp
 generalize os.map kt=L1 at *;generalize ss.map yA=L2' at *;generalize yv ns=sc at *;simp[hlen,hr,h1]
theorem NA (ns:List Int):∃ F:zC,nJ [yv ns]=some (zx F)/\F.Ok/\(∀ x<F.os.length,∃ w∈F.ws,w.f=x)/\F.ss.Pairwise (λ a b=>a.p≠b.p):=by
 have hc:=nP ns 0;have c0:=eB ns 0;generalize cell ns 0=num at *;have hc':xQ [yv ns,.int 0]=some (.int num):=hc;have d8:wI num 8:=⟨by decide,by decide⟩
 obtain⟨mi,hm,m1,m8⟩:=mv (L:=[T.int 2,.int 3,.int 1,.int 4,.int 3,.int 2,.int 4,.int (5+num/8%4)]) (P:=λ v=>1<=v/\v<=8) (by intro y hy;simp only[List.mem_cons,List.mem_nil_iff,or_false] at hy;rcases hy with rfl | rfl | rfl | rfl | rfl | rfl | rfl | rfl <;> exact⟨_,rfl,by omega,by omega⟩) (i:=num%8) (by omega) (by simp;omega);obtain⟨many,rfl⟩:∃ k:Nat,mi=(k:Int):=⟨mi.toNat,by omega⟩
 obtain⟨os,h1,o1⟩:=N4 ns many (by omega);obtain⟨A,B,h2,a1,b1,ab⟩:=NM ns many;obtain⟨ws,h3,w1,w2,w3⟩:=Nw ns many (by omega) (by omega);obtain⟨ss,h4,s1,s2,s3⟩:=Nz ns os (by omega);by_cases hbig:(A=12/\B=12)/\(6<ws.length\/0<ss.length)
 .refine⟨⟨12,3,os,ws,ss⟩,?_,⟨by show (0:Int)<=12;decide,by show (12:Int)<=12;decide,by show (0:Int)<=3;decide,by show (3:Int)<=12;decide,by show 1<=os.length;omega,by show os.length<=8;omega,λ w hw=>by show w.f<os.length/\w.t<os.length;rw[o1];exact w2 w hw,w1,s2,.inr (by show ((12:Int)+1)*(3+1)<64;decide),s1⟩,by show ∀ x<os.length,_;rw[o1];exact w3,s3⟩;obtain⟨⟨rfl,rfl⟩,hb⟩:=hbig;have he:zM false (.tup [.int 12,.int 12]) (.tup [.int 12,.int 12])=some (.bl true):=by simp[zM,dep,yC,eqT,we]
  unfold nJ cf zx;have l1:(ws.map zT).length=ws.length:=by simp
  have l2:(ss.map yA).length=ss.length:=by simp
  generalize ws.map zT=L1 at *;generalize ss.map yA=L2' at *;generalize os.map kt=L3' at *;generalize xQ=f1 at *;generalize nH=f2 at *;generalize nK=f3 at *;generalize nE=f4 at *;generalize nF=f5 at *;generalize yv ns=sc at *;rcases hb with hb | hb
  .have hb':(6:Int)<(ws.length:Int):=by omega
   simp[hc',d8,hm,h1,h2,h3,h4,he,l1,l2,hb',hb]
  .have hb':(0:Int)<(ss.length:Int):=by omega
   by_cases h6:6<ws.length
   .have h6':(6:Int)<(ws.length:Int):=by omega
    simp[hc',d8,hm,h1,h2,h3,h4,he,l1,l2,h6,h6']
   .have h6':¬ (6:Int)<(ws.length:Int):=by omega
    simp[hc',d8,hm,h1,h2,h3,h4,he,l1,l2,h6,h6',hb,hb']
 .refine⟨⟨A,B,os,ws,ss⟩,?_,⟨a1.1,a1.2,b1.1,b1.2,by show 1<=os.length;omega,by show os.length<=8;omega,λ w hw=>by show w.f<os.length/\w.t<os.length;rw[o1];exact w2 w hw,w1,s2,?_,s1⟩,by show ∀ x<os.length,_;rw[o1];exact w3,s3⟩
  .have he:zM false (.tup [.int A,.int B]) (.tup [.int 12,.int 12])=some (.bl (decide (A=12/\B=12))):=by
    by_cases x:A=12 <;> by_cases y:B=12 <;> simp[zM,dep,yC,eqT,we,x,y]
   unfold nJ cf zx;have l1:(ws.map zT).length=ws.length:=by simp
   have l2:(ss.map yA).length=ss.length:=by simp
   generalize ws.map zT=L1 at *;generalize ss.map yA=L2' at *;generalize os.map kt=L3' at *;generalize xQ=f1 at *;generalize nH=f2 at *;generalize nK=f3 at *;generalize nE=f4 at *;generalize nF=f5 at *;generalize yv ns=sc at *;by_cases hAB:A=12/\B=12
   .have n1:¬ 6<ws.length:=λ h=>hbig ⟨hAB,.inl h⟩;have n2:¬ 0<ss.length:=λ h=>hbig ⟨hAB,.inr h⟩;have n1':¬ (6:Int)<(ws.length:Int):=by omega
    have n2':¬ (0:Int)<(ss.length:Int):=by omega
    rw[decide_eq_true hAB] at he;simp[hc',d8,hm,h1,h2,h3,h4,he,l1,l2,n1,n2,n1',n2']
   .rw[decide_eq_false hAB] at he;simp[hc',d8,hm,h1,h2,h3,h4,he]
  .show ss=[]\/(A+1)*(B+1)<64;rcases ab with x | x
   .refine .inl ?_;cases ss with
    | nil=>rfl
    | cons a l=>exact absurd ⟨x,.inr (by simp)⟩ hbig
   .exact .inr x
end yE
namespace yE
open PySem L2 L3 L5 RN
theorem mi (x y:Int):(if y<x then y else x)=min x y:=by split <;> omega
noncomputable def xN (o:Option (Int×Int)):T:=match o with
 | none=>.zl
 | some r=>zo r
theorem jl (F:zC):zp (zx F) (.int 0)=some (.tup [.int F.A,.int F.B]):=by simp[zx]
theorem fR (F:zC):zp (zx F) (.int 1)=some (.tup (F.os.map kt)):=by simp[zx]
theorem jk (F:zC):zp (zx F) (.int 2)=some (.tup (F.ws.map zT)):=by simp[zx]
theorem Pg (F:zC):zp (zx F) (.int 3)=some (.tup (F.ss.map yA)):=by simp[zx]
theorem NS (F:zC) (q:Int×Int) (w:Wy):nL [zx F,zo q,zT w]=some (xN (r_ F q w)):=by
 have hw0:=jl F;unfold nL Wf r_ zo zT;generalize zx F=fl at *;simp only[zp] at hw0;by_cases h1:q.1+w.a<0
 .simp[h1,yH,xN]
 .by_cases h2:q.2+w.b<0
  .simp[h1,h2,yH,xN]
  .simp[h1,h2,yH,xN,hw0,mi,zo]
theorem Ny (F:zC) (q:Int×Int) {i:Nat}{w:Wy}(hw:F.ws[i]?=some w):n6 [zx F,zo q,.int (i:Int)]=some (xN (r_ F q w)):=by
 have hw0:=jl F;have hw2:=jk F;have hi:L2.yh (F.ws.map zT) (i:Int)=some (.tup [.int w.f,.int w.t,.int w.a,.int w.b]):=wQ (by rw[List.getElem?_map,hw];rfl);have hc:uY [T.int w.f,.int w.t,.int w.a,.int w.b] (some 2) none=[.int w.a,.int w.b]:=rfl;unfold n6 XN r_ zo;generalize F.ws.map zT=WS at *;generalize zx F=fl at *;simp only[zp] at hw0 hw2;by_cases h1:q.1+w.a<0
 .simp[h1,yH,xN,hw2,hi,hc]
 .by_cases h2:q.2+w.b<0
  .simp[h1,h2,yH,xN,hw2,hi,hc]
  .simp[h1,h2,yH,xN,hw0,hw2,hi,hc,mi,zo]
theorem N7 {F:zC}{l:List Bd}{q:Int×Int}{i:Nat}{w:Wy}(hw:F.ws[i]?=some w) (ht:w.t<l.length) (hb:(l.getD w.t []).length<=10000):nC [zx F,zo q,.int (i:Int),rT l]=some (.bl (xA F l q w)):=by
 have hw2:=jk F;have hi:L2.yh (F.ws.map zT) (i:Int)=some (zT w):=wQ (by rw[List.getElem?_map,hw];rfl);have h1:zp (zT w) (.int 1)=some (.int w.t):=by simp[zT]
 have h2:=Ny F q hw;have h3:=px l w.t ht;unfold xA;cases ho:r_ F q w with
 | none=>
  rw[ho] at h2;have i1:wC true .zl .zl=some (.bl false):=rfl;unfold nC dY;generalize n6=f1 at *;generalize nN=f2 at *;generalize zx F=fl at *;generalize zo q=pq at *;generalize rT l=rl at *;simp[h2,xN,i1]
 | some r=>
  rw[ho] at h2;have h4:=N8 (l.getD w.t []) r hb;have i1:wC true (zo r) .zl=some (.bl true):=rfl;unfold nC dY;generalize n6=f1 at *;generalize nN=f2 at *;generalize bT (l.getD w.t [])=bt at *;generalize F.ws.map zT=WS at *;generalize zT w=wt at *;generalize zx F=fl at *;generalize zo q=pq at *;generalize rT l=rl at *;simp only[zp] at hw2 h1 h3;simp only[xN] at h2;generalize zo r=rr at *;simp[h2,i1,hw2,hi,h1,h3,h4]
theorem Xi {F:zC}{l:List Bd}{q:Int×Int}{w:Wy}(ht:w.t<l.length):qH [zx F,rT l,zo q,zT w]=some (.bl (xA F l q w)):=by
 have h1:zp (zT w) (.int 1)=some (.int w.t):=by simp[zT]
 have h2:=NS F q w;have h3:=px l w.t ht;unfold xA;cases ho:r_ F q w with
 | none=>
  rw[ho] at h2;have i1:wC true .zl .zl=some (.bl false):=rfl;unfold qH d_;generalize nL=f1 at *;generalize nI=f2 at *;generalize zx F=fl at *;generalize zo q=pq at *;generalize rT l=rl at *;generalize zT w=wt at *;simp[h2,xN,i1]
 | some r=>
  rw[ho] at h2;have h4:=N9 (bT (l.getD w.t [])) (l.getD w.t []) r rfl;have i1:wC true (zo r) .zl=some (.bl true):=rfl;unfold qH d_;generalize nL=f1 at *;generalize nI=f2 at *;generalize bT (l.getD w.t [])=bt at *;generalize zT w=wt at *;generalize zx F=fl at *;generalize zo q=pq at *;generalize rT l=rl at *;simp only[zp] at h1 h3;simp only[xN] at h2;generalize zo r=rr at *;simp[h2,i1,h1,h3,h4]
noncomputable def oV (F:zC) (s:Sl) (q:Int×Int) (k:Nat):Int×Int:=yW s.pu (zW s.pu q-k*s.gv) (min (y9 s.pu q+k*s.gt) (F.yc (!s.pu)))
theorem Y4 {F:zC}{s:Sl}(hs:1<=s.gv/\0<=s.gt):∀ (n:Nat) {q:Int×Int},xP F q->zW s.pu q<n->∀ k:Nat,(wN F s n q)[k]?=if (k:Int)*s.gv<=zW s.pu q then some (oV F s q k) else none
 | 0,q,h,hn,_=>by
  have:=(vi (pu:=s.pu).mp h).1.1;omega
 | n+1,q,h,hn,0=>by
  have h':=vi (pu:=s.pu).mp h;unfold wN oV;rw[List.getElem?_cons_zero,if_pos (by simp;omega)];simp only[Int.natCast_zero,Int.zero_mul,Int.sub_zero,Int.add_zero];rw[Int.min_eq_left h'.2.2,mq]
 | n+1,q,h,hn,k+1=>by
  have h':=vi (pu:=s.pu).mp h;have e1:((k+1:Nat):Int)*s.gv=k*s.gv+s.gv:=by rw[Int.natCast_succ,Int.add_mul];omega
  have e2:((k+1:Nat):Int)*s.gt=k*s.gt+s.gt:=by rw[Int.natCast_succ,Int.add_mul];omega
  have k0:0<=(k:Int)*s.gt:=Int.mul_nonneg (by omega) hs.2;have k1:0<=(k:Int)*s.gv:=Int.mul_nonneg (by omega) (by omega);unfold wN;rw[List.getElem?_cons_succ];by_cases hg:s.gv<=zW s.pu q
  .rw[if_pos hg];have hi:xP F (yW s.pu (zW s.pu q-s.gv) (min (y9 s.pu q+s.gt) (F.yc (!s.pu)))):=by
    rw[vi (pu:=s.pu),vI,sC];omega
   rw[Y4 hs n hi (by rw[vI];omega) k,vI];unfold oV;rw[vI,sC,e1,e2];by_cases hk:(k:Int)*s.gv<=zW s.pu q-s.gv
   .rw[if_pos hk,if_pos (by omega)];congr 2
    .omega
    .omega
   .rw[if_neg hk,if_neg (by omega)]
  .rw[if_neg hg,e1,if_neg (by omega)];rfl
theorem NG (mw:T->T->Option T) {F:zC}{s:Sl}{q:Int×Int}{k:Nat}(hb:Wn=(zy (zN 4 (zb zp (zc 1) (cS (.int 1))))
 (zy (zN 5 (zb wW (zb zp (zc 2) (zc 4)) (zb mw (zc 3) (zb zp (zc 1) (cS (.int 2))))))
 (zy (yG (zR (zb yH (zc 5) (cS (.int 0)))) (retS (cS .zl)) yF)
 (zy (zN 6 (zD tH (ze (zb yQ (zb zp (zc 2) (zb wW (cS (.int 1)) (zc 4))) (zb mw (zc 3) (zb zp (zc 1) (cS (.int 3))))) (ze (zb zp (zc 0) (zb wW (cS (.int 1)) (zc 4))) zq))))
 (zy (yG (zR (zb (zM false) (zc 4) (cS (.int 0)))) (retS (tupS (ze (zt 5) (ze (zt 6) zq)))) yF)
 (retS (tupS (ze (zt 6) (ze (zt 5) zq))))))))))
  (m1:mw (.int (k:Int)) (.int s.gv)=some (.int (k*s.gv))) (m2:mw (.int (k:Int)) (.int s.gt)=some (.int (k*s.gt))):pQ [.tup [.int F.A,.int F.B],yA s,zo q,.int (k:Int)]=some (xN (if (k:Int)*s.gv<=zW s.pu q then some (oV F s q k) else none)):=by
 unfold pQ;rw[hb];unfold yA zo oV;generalize (k:Int)*s.gv=x at *;generalize (k:Int)*s.gt=y at *;cases hpu:s.pu with
 | true=>
  by_cases h:x<=q.2
  .have h':¬ q.2-x<0:=by omega
   simp[wB,m1,m2,h,h',yH,zW,hpu,xN,mi,eq_int,zo,yW,y9,zC.yc]
  .have h':q.2-x<0:=by omega
   simp[wB,m1,m2,h,h',yH,zW,hpu,xN]
 | false=>
  by_cases h:x<=q.1
  .have h':¬ q.1-x<0:=by omega
   simp[wB,m1,m2,h,h',yH,zW,hpu,xN,mi,eq_int,zo,yW,y9,zC.yc]
  .have h':q.1-x<0:=by omega
   simp[wB,m1,m2,h,h',yH,zW,hpu,xN]
theorem NH {F:zC}{s:Sl}{q:Int×Int}{k:Nat}(hk:k<=100):pQ [.tup [.int F.A,.int F.B],yA s,zo q,.int (k:Int)]=some (xN (if (k:Int)*s.gv<=zW s.pu q then some (oV F s q k) else none)):=
 NG wo rfl (mG (.inl ⟨by omega,by omega⟩)) (mG (.inl ⟨by omega,by omega⟩))
end yE
namespace yE
open PySem L2 L3 L5 RN
theorem Y1 (F:zC) (p:Nat) (q:Int×Int):(yV F p q)[0]?=some q:=by
 unfold yV;cases F.stall p with
 | none=>rfl
 | some s=>rfl
theorem NL {F:zC}(ok:F.Ok) {p:Nat}(hp:p<F.os.length) {q:Int×Int}(hq:xP F q) {k:Nat}(hk:k<=100):pR [zx F,.int (p:Int),zo q,.int (k:Int)]=some (xN (yV F p q)[k]?):=by
 cases k with
 | zero=>
  rw[Y1];unfold pR ic xN zo;simp[eq_int]
 | succ k=>
  have hk0:¬ ((k:Int)+1=0):=by omega
  have h1:=Xh F p hp ok.s8;have hw0:=jl F;unfold yV;cases hs:F.stall p with
  | none=>
   rw[hs] at h1;have i1:wC false .zl .zl=some (.bl true):=rfl;unfold pR ic;generalize sV=f1 at *;generalize pQ=f2 at *;generalize zx F=fl at *;generalize zo q=pq at *;simp[eq_int,hk0,h1,i1,xN]
  | some s=>
   rw[hs] at h1;have hs':=ok.ss s (List.mem_of_find?_eq_some hs);have hgv:zW s.pu q<20:=by
    have:=vi (pu:=s.pu).mp hq;have:F.yc s.pu<=12:=by have:=ok.a1;have:=ok.b1;unfold zC.yc;split <;> assumption
    omega
   have h2:=NH (F:=F) (s:=s) (q:=q) (k:=k+1) hk;rw[<- Y4 hs' 20 hq (by omega)] at h2;rw[Int.natCast_succ] at h2;have i1:wC false (yA s) .zl=some (.bl false):=rfl;unfold pR ic;dsimp only;generalize (wN F s 20 q)[k+1]?=oo at *;generalize sV=f1 at *;generalize pQ=f2 at *;generalize zx F=fl at *;generalize zo q=pq at *;dsimp only at h1;generalize yA s=sl at *;simp only[zp] at hw0;simp[eq_int,hk0,h1,i1,hw0,h2]
noncomputable def xZ (F:zC) (p:Nat):List (Wy×Nat):=F.ws.zipIdx.filter λ wi=>decide (wi.1.f=p)
theorem cm {F:zC}{p:Nat}{wi:Wy×Nat}(h:wi∈xZ F p):F.ws[wi.2]?=some wi.1/\wi.1.f=p:=by
 obtain⟨h1,h2⟩:=List.mem_filter.mp h;exact⟨List.mem_zipIdx_iff_getElem?.mp h1,of_decide_eq_true h2⟩
theorem Ww {F:zC}{p:Nat}(t:Wy->Bool):(xZ F p).any (λ wi=>t wi.1)=(x_ F p).any t:=by
 unfold x_;rw[<- lX (λ w=>decide (w.f=p)) F.ws 0,List.any_map];rfl
noncomputable def uX (F:zC) (l:List Bd) (p:Nat):Nat->List (Int×Int)->Option (Nat×Nat)
 | _,[]=>none
 | k,r::cs=>match (xZ F p).find? (λ wi=>xA F l r wi.1) with
  | some wi=>some (k,wi.2)
  | none=>uX F l p (k+1) cs
noncomputable def dT (o:Option (Nat×Nat)):T:=match o with
 | none=>.zl
 | some x=>.tup [.int (x.1:Int),.int (x.2:Int)]
theorem Ye {F:zC}{l:List Bd}{p:Nat}:∀ {cs:List (Int×Int)}{k:Nat}{x:Nat×Nat},uX F l p k cs=some x->k<=x.1/\∃ r w,cs[x.1-k]?=some r/\F.ws[x.2]?=some w/\w.f=p/\xA F l r w=true
 | [],k,x,h=>by cases h
 | r::cs,k,x,h=>by
  unfold uX at h;cases ho:(xZ F p).find? (λ wi=>xA F l r wi.1) with
  | some wi=>
   rw[ho] at h;cases h;obtain⟨h1,h2⟩:=cm (List.mem_of_find?_eq_some ho);exact⟨Nat.le_refl _,r,wi.1,by simp,h1,h2,by simpa using List.find?_some ho⟩
  | none=>
   rw[ho] at h;obtain⟨h1,r',w,h2,h3⟩:=Ye h;refine⟨by omega,r',w,?_,h3⟩;rw[show x.1-k=(x.1-(k+1))+1 by omega,List.getElem?_cons_succ];exact h2
theorem Yf {F:zC}{l:List Bd}{p:Nat}:∀ {cs:List (Int×Int)}{k:Nat},(cs.any λ r=>(x_ F p).any (xA F l r))=true->∃ x,uX F l p k cs=some x
 | [],k,h=>by cases h
 | r::cs,k,h=>by
  unfold uX;cases ho:(xZ F p).find? (λ wi=>xA F l r wi.1) with
  | some wi=>exact⟨_,rfl⟩
  | none=>
   refine Yf ?_;rw[List.any_cons,<- Ww,Bool.or_eq_true] at h;rcases h with h | h
   .rw[List.find?_eq_none] at ho;obtain⟨wi,h1,h2⟩:=List.any_eq_true.mp h;exact absurd h2 (ho wi h1)
   .exact h
theorem Y2 {F:zC}{s:Sl}:∀ (n:Nat) (q:Int×Int),(wN F s n q).length<=n+1
 | 0,q=>by unfold wN;simp
 | n+1,q=>by
  unfold wN;rw[List.length_cons];split
  .have:=Y2 n (F:=F) (s:=s) (yW s.pu (zW s.pu q-s.gv) (min (y9 s.pu q+s.gt) (F.yc (!s.pu))));omega
  .simp
theorem Ox (F:zC) (p:Nat) (q:Int×Int):(yV F p q).length<=21:=by
 unfold yV;cases F.stall p with
 | none=>simp
 | some s=>exact Y2 20 q
noncomputable def xn (F:zC) (l:List Bd) (p:Nat) (q:Int×Int) (k:Nat):Ev:=[some (.im (zx F)),some (.im (.int (p:Int))),some (.im (zo q)),some (.im (rT l)),some (.im (.lst ((xZ F p).map λ wi=>T.int (wi.2:Int)))),some (.im (.int (k:Int))),some (.im (xN (yV F p q)[k]?)),none]
theorem P_ {F:zC}(ok:F.Ok) {l:List Bd}(hl:l.length=F.os.length) (hb:∀ b∈l,b.length<=10000) {p:Nat}{q r:Int×Int}{k:Nat}(hr:(yV F p q)[k]?=some r) {wi:Wy×Nat}(hw:wi∈xZ F p):
  ∃ ρ',yU [7] ρ'=xn F l p q k/\turn (zK 7) pJ (T.int (wi.2:Int)) (xn F l p q k)=some (if xA F l r wi.1=true then .rt (.tup [.int (k:Int),.int (wi.2:Int)]) else .nx ρ'):=by
 have hE:xn F l p q k=[some (.im (zx F)),some (.im (.int (p:Int))),some (.im (zo q)),some (.im (rT l)),some (.im (.lst ((xZ F p).map λ wi=>T.int (wi.2:Int)))),some (.im (.int (k:Int))),some (.im (zo r)),none]:=by unfold xn;rw[hr];rfl
 obtain⟨h1,h2⟩:=cm hw;have ht:=(ok.ws wi.1 (List.mem_of_getElem? h1)).2;have ht':wi.1.t<l.length:=by omega
 have h3:=N7 (F:=F) (l:=l) (q:=r) h1 ht' (by
  rw[List.getD_eq_getElem?_getD,List.getElem?_eq_getElem ht'];exact hb _ (List.getElem_mem ht'))
 refine⟨(xn F l p q k).set 7 (some (.im (.int (wi.2:Int)))),by rw[hE];simp,?_⟩;rw[hE];unfold turn pJ;generalize nC=f1 at *;generalize zx F=fl at *;generalize zo r=pr at *;generalize zo q=pq at *;generalize rT l=rl at *;generalize (xZ F p).map (λ wi=>T.int (wi.2:Int))=WS at *;cases hc:xA F l r wi.1 <;> rw[hc] at h3 <;> simp[h3]
theorem Oa {F:zC}(ok:F.Ok) {l:List Bd}(hl:l.length=F.os.length) (hb:∀ b∈l,b.length<=10000) {p:Nat}{q r:Int×Int}{k:Nat}(hr:(yV F p q)[k]?=some r):
  vc [7] (zK 7) pJ ((xZ F p).map λ wi=>T.int (wi.2:Int)) (xn F l p q k)=some (match (xZ F p).find? (λ wi=>xA F l r wi.1) with | some wi=>.rt (.tup [.int (k:Int),.int (wi.2:Int)]) | none=>.nx (xn F l p q k)):=by
 have hE:xn F l p q k=[some (.im (zx F)),some (.im (.int (p:Int))),some (.im (zo q)),some (.im (rT l)),some (.im (.lst ((xZ F p).map λ wi=>T.int (wi.2:Int)))),some (.im (.int (k:Int))),some (.im (zo r)),none]:=by unfold xn;rw[hr];rfl
 have key:=gY (is:=[7]) (g:=zK 7) (b:=pJ) (λ wi:Wy×Nat=>T.int (wi.2:Int)) (λ wi=>.tup [.int (k:Int),.int (wi.2:Int)]) (λ wi=>xA F l r wi.1) (xn F l p q k) (xZ F p) (xn F l p q k) (by rw[hE];simp) λ wi hw=>P_ ok hl hb hr hw;rw[key];cases (xZ F p).find? (λ wi=>xA F l r wi.1) <;> rfl
theorem Yd {F:zC}(ok:F.Ok) {l:List Bd}(hl:l.length=F.os.length) (hb:∀ b∈l,b.length<=10000) {p:Nat}(hp:p<F.os.length) {q:Int×Int}(hq:xP F q):∀ (cs:List (Int×Int)) (k m:Nat),(yV F p q).drop k=cs->k+cs.length<=21->cs.length<m->
  xI [7] (zR (zb (wC true) (zc 6) (cS .zl))) qB m (xn F l p q k)=some (match uX F l p k cs with | some x=>.rt (dT (some x)) | none=>.nx (xn F l p q (k+cs.length)))
 | [],k,m+1,h,hk,hm=>by
  have hn:(yV F p q)[k]?=none:=by
   have:=congrArg List.length h;simp at this;exact List.getElem?_eq_none (by omega)
  have i1:wC true .zl .zl=some (.bl false):=rfl;have hE:xn F l p q k=[some (.im (zx F)),some (.im (.int (p:Int))),some (.im (zo q)),some (.im (rT l)),some (.im (.lst ((xZ F p).map λ wi=>T.int (wi.2:Int)))),some (.im (.int (k:Int))),some (.im .zl),none]:=by unfold xn;rw[hn];rfl
  unfold xI uX;show _=some (Out.nx (xn F l p q k));rw[hE];simp[i1]
 | r::cs,k,m+1,h,hk,hm=>by
  have hr:(yV F p q)[k]?=some r:=by
   have:=congrArg (λ x=>x[0]?) h;simpa using this
  have hd:(yV F p q).drop (k+1)=cs:=by
   have:=congrArg List.tail h;rw[List.tail_drop] at this;simpa using this
  have hlen:(r::cs).length=cs.length+1:=rfl;have hf:=Oa ok hl hb hr (p:=p);have hc:=NL ok hp hq (k:=k+1) (by omega);rw[Int.natCast_succ] at hc;have i1:wC true (zo r) .zl=some (.bl true):=rfl;have hE:xn F l p q k=[some (.im (zx F)),some (.im (.int (p:Int))),some (.im (zo q)),some (.im (rT l)),some (.im (.lst ((xZ F p).map λ wi=>T.int (wi.2:Int)))),some (.im (.int (k:Int))),some (.im (zo r)),none]:=by unfold xn;rw[hr];rfl
  have hfr:yU [7] (xn F l p q k)=xn F l p q k:=by rw[hE];simp
  have htest:zR (zb (wC true) (zc 6) (cS .zl)) (xn F l p q k)=some true:=by rw[hE];simp[i1]
  unfold xI uX;rw[hfr,htest,Option.bind_some,if_pos rfl];cases ho:(xZ F p).find? (λ wi=>xA F l r wi.1) with
  | some wi=>
   rw[ho] at hf;have:qB (xn F l p q k)=some (.rt (.tup [.int (k:Int),.int (wi.2:Int)])):=by
    unfold qB;rw[hE] at hf ⊢;generalize pJ=b1 at *;simp[hf]
   rw[this];rfl
  | none=>
   rw[ho] at hf;have hb2:qB (xn F l p q k)=some (.nx (xn F l p q (k+1))):=by
    unfold qB;have hE2:xn F l p q (k+1)=[some (.im (zx F)),some (.im (.int (p:Int))),some (.im (zo q)),some (.im (rT l)),some (.im (.lst ((xZ F p).map λ wi=>T.int (wi.2:Int)))),some (.im (.int ((k:Int)+1))),some (.im (xN (yV F p q)[k+1]?)),none]:=by unfold xn;rw[Int.natCast_succ]
    rw[hE2];rw[hE] at hf ⊢;generalize pJ=b1 at *;generalize pR=f1 at *;generalize xN (yV F p q)[k+1]?=s1 at *;generalize zx F=fl at *;generalize zo r=pr at *;generalize zo q=pq at *;generalize rT l=rl at *;generalize (xZ F p).map (λ wi=>T.int (wi.2:Int))=WS at *;simp at hf;simp[hf,hc]
   rw[hb2,Option.bind_some];show xI [7] _ qB m (xn F l p q (k+1))=_;rw[Yd ok hl hb hp hq cs (k+1) m hd (by omega) (by omega),hlen];rw[show k+1+cs.length=k+(cs.length+1) by omega]
theorem NF {F:zC}(ok:F.Ok) {l:List Bd}(hl:l.length=F.os.length) (hb:∀ b∈l,b.length<=10000) {p:Nat}(hp:p<F.os.length) {q:Int×Int}(hq:xP F q):lN [zx F,.int (p:Int),zo q,rT l]=some (dT (uX F l p 0 (yV F p q))):=by
 have h1:=Xg F p hp ok.rS;have hl21:=Ox F p q;have hw:=Yd ok hl hb hp hq (yV F p q) 0 1000000 rfl (by omega) (by omega);have hE:xn F l p q 0=[some (.im (zx F)),some (.im (.int (p:Int))),some (.im (zo q)),some (.im (rT l)),some (.im (.lst ((xZ F p).map λ wi=>T.int (wi.2:Int)))),some (.im (.int 0)),some (.im (zo q)),none]:=by unfold xn;rw[Y1];rfl
 rw[hE] at hw;replace h1:qG [zx F,.int (p:Int)]=some (.lst ((xZ F p).map λ wi=>T.int (wi.2:Int))):=h1;unfold lN Wl sX;generalize xn F l p q (0+(yV F p q).length)=EE at *;generalize zR (zb (wC true) (zc 6) (cS .zl))=tt at *;generalize qB=b2 at *;generalize qG=f1 at *;generalize (1000000:Nat)=M at *;generalize zx F=fl at *;generalize zo q=pq at *;generalize rT l=rl at *;generalize (xZ F p).map (λ wi=>T.int (wi.2:Int))=WS at *;cases hd:uX F l p 0 (yV F p q) with
 | some x=>rw[hd] at hw;simp at hw;simp[h1,hw]
 | none=>rw[hd] at hw;simp at hw;simp[h1,hw,dT]
end yE
namespace yE
open PySem L2 L3 L5 RN
noncomputable def wO (F:zC) (p:Nat) (q:Int×Int) (s:Sl) (L:List (Int×Int)) (c:Option L5.W):Ev:=[some (.im (zx F)),some (.im (.int (p:Int))),some (.im (zo q)),some (.own (.lst (L.map zo))),some (.im (.int (s.p:Int))),some (.im (.int (wB s.pu))),some (.im (.int s.gv)),some (.im (.int s.gt)),c]
noncomputable def tS (F:zC) (s:Sl) (r:Int×Int):Int×Int:=yW s.pu (zW s.pu r-s.gv) (min (y9 s.pu r+s.gt) (F.yc (!s.pu)))
theorem O4 {F:zC}{p:Nat}{q:Int×Int}{s:Sl}{pre:List (Int×Int)}{r:Int×Int}(hl:pre.length<=1000):∃ c,nc (wO F p q s (pre++[r]) none)=some (.nx (wO F p q s (pre++[r]++[tS F s r]) c)):=by
 have hlast:L2.yh ((pre++[r]).map zo) (-1)=some (.tup [.int r.1,.int r.2]):=by rw[List.map_append];exact lC
 have e2:(pre++[r]++[tS F s r]).map zo=(pre++[r]).map zo++[zo (tS F s r)]:=by simp
 have hlen:((pre++[r]).map zo).length<16777216:=by simp;omega
 have hw0:=jl F;have n0:wL 2 0=some 0:=rfl;have n1:wL 2 1=some 1:=rfl;refine⟨some (.own (.lst [.int (tS F s r).1,.int (tS F s r).2])),?_⟩;unfold wO;rw[e2];unfold nc;generalize (pre++[r]).map zo=LL at *;generalize zx F=fl at *;generalize zo q=pq at *;simp only[zp] at hw0;unfold tS;cases hpu:s.pu <;> simp[wB,hlast,hw0,n0,n1,hlen,yW,zW,y9,zC.yc,mi,zo]
theorem Y9 {F:zC}{p:Nat}{q:Int×Int}{s:Sl}{pre:List (Int×Int)}{r:Int×Int}:tQ (zR (zb (zM false) (zc 4) (zc 1))) (zR (zb tL (zb zp (zb zp (zc 3) (rq (cS (.int 1)))) (zc 5)) (zc 6))) (wO F p q s (pre++[r]) none)=some (decide (s.p=p)&&decide (s.gv<=zW s.pu r)):=by
 have hlast:L2.yh ((pre++[r]).map zo) (-1)=some (.tup [.int r.1,.int r.2]):=by rw[List.map_append];exact lC
 unfold wO;generalize (pre++[r]).map zo=LL at *;generalize zx F=fl at *;generalize zo q=pq at *;by_cases hp:s.p=p
 .have hp':(s.p:Int)=(p:Int):=by omega
  cases hpu:s.pu <;> simp[wB,hlast,zW,eq_int,hp]
 .have hp':¬ (s.p:Int)=(p:Int):=by omega
  simp[eq_int,hp,hp']
theorem Y8 {F:zC}{p:Nat}{q:Int×Int}{s:Sl}(hs:1<=s.gv/\0<=s.gt) (hsp:s.p=p):∀ (n:Nat) (pre:List (Int×Int)) (r:Int×Int) (m:Nat),xP F r->zW s.pu r<n->n<m->pre.length+n<=1000->∀ c,
  xI [8] (tQ (zR (zb (zM false) (zc 4) (zc 1))) (zR (zb tL (zb zp (zb zp (zc 3) (rq (cS (.int 1)))) (zc 5)) (zc 6)))) nc m (wO F p q s (pre++[r]) c)=some (.nx (wO F p q s (pre++wN F s n r) none))
 | 0,pre,r,m,hr,hn,hm,hl,c=>by
  have:=(vi (pu:=s.pu).mp hr).1.1;omega
 | n+1,pre,r,m+1,hr,hn,hm,hl,c=>by
  have hfr:yU [8] (wO F p q s (pre++[r]) c)=wO F p q s (pre++[r]) none:=by unfold wO;simp
  unfold xI wN;rw[hfr,Y9,Option.bind_some,decide_eq_true hsp,Bool.true_and];by_cases hg:s.gv<=zW s.pu r
  .rw[decide_eq_true hg,if_pos rfl,if_pos hg];obtain⟨c',hb⟩:=O4 (F:=F) (p:=p) (q:=q) (s:=s) (pre:=pre) (r:=r) (by omega);rw[hb,Option.bind_some];have h':=vi (pu:=s.pu).mp hr;have hi:xP F (tS F s r):=by
    unfold tS;rw[vi (pu:=s.pu),vI,sC];omega
   have ih:=Y8 (q:=q) hs hsp n (pre++[r]) (tS F s r) m hi (by unfold tS;rw[vI];omega) (by omega) (by simp;omega) c';show xI [8] _ nc m (wO F p q s (pre++[r]++[tS F s r]) c')=_;rw[ih,List.append_assoc];rfl
  .rw[decide_eq_false hg,if_neg (by decide),if_neg hg]
theorem O3 {F:zC}{p:Nat}{q:Int×Int}{s:Sl}(hsp:¬ s.p=p) (pre:List (Int×Int)) (r:Int×Int) (m:Nat) (c:Option L5.W):
  xI [8] (tQ (zR (zb (zM false) (zc 4) (zc 1))) (zR (zb tL (zb zp (zb zp (zc 3) (rq (cS (.int 1)))) (zc 5)) (zc 6)))) nc (m+1) (wO F p q s (pre++[r]) c)=some (.nx (wO F p q s (pre++[r]) none)):=by
 have hfr:yU [8] (wO F p q s (pre++[r]) c)=wO F p q s (pre++[r]) none:=by unfold wO;simp
 unfold xI;rw[hfr,Y9,Option.bind_some,decide_eq_false hsp,Bool.false_and,if_neg (by decide)]
theorem Y3 {F:zC}{s:Sl}:∀ (n:Nat) (q:Int×Int),∃ pre r,wN F s n q=pre++[r]
 | 0,q=>⟨[],q,rfl⟩
 | n+1,q=>by
  unfold wN;split
  .obtain⟨pre,r,e⟩:=Y3 (F:=F) (s:=s) n (yW s.pu (zW s.pu q-s.gv) (min (y9 s.pu q+s.gt) (F.yc (!s.pu))));exact⟨q::pre,r,by rw[e];rfl⟩
  .exact⟨[],q,rfl⟩
noncomputable def ua (F:zC) (p:Nat) (q:Int×Int) (ss:List Sl):List (Int×Int):=match ss.find? (λ s=>decide (s.p=p)) with
 | none=>[q]
 | some s=>wN F s 20 q
theorem NK {F:zC}(ok:F.Ok) (hpw:F.ss.Pairwise (λ a b=>a.p≠b.p)) (p:Nat) {q:Int×Int}(hq:xP F q):lL [zx F,.int (p:Int),zo q]=some (.lst ((yV F p q).map zo)):=by
 obtain⟨ρ',h1,h2⟩:=tI (is:=[4,5,6,7,8]) (g:=vp 4 (yP (zK 4) (yP (zK 5) (yP (zK 6) (yP (zK 7) vS))))) (b:=oZ) yA (λ ss ρ=>ρ=[some (.im (zx F)),some (.im (.int (p:Int))),some (.im (zo q)),some (.own (.lst ((ua F p q ss).map zo))),none,none,none,none,none])
   F.ss [some (.im (zx F)),some (.im (.int (p:Int))),some (.im (zo q)),some (.own (.lst [zo q])),none,none,none,none,none] rfl (by
  rintro pf s sf e ρ rfl;have hs:=ok.ss s (by rw[e];simp);have hb:turn (vp 4 (yP (zK 4) (yP (zK 5) (yP (zK 6) (yP (zK 7) vS))))) oZ (yA s) [some (.im (zx F)),some (.im (.int (p:Int))),some (.im (zo q)),some (.own (.lst ((ua F p q pf).map zo))),none,none,none,none,none]=oZ (wO F p q s (ua F p q pf) none):=rfl;rw[hb];refine⟨wO F p q s (ua F p q (pf++[s])) none,?_,by unfold wO;simp⟩;unfold oZ sX;by_cases hsp:s.p=p
  .have hno:pf.find? (λ s=>decide (s.p=p))=none:=by
    rw[List.find?_eq_none];intro a ha h;rw[e] at hpw;exact (List.pairwise_append.mp hpw).2.2 a ha s zMc (by rw[of_decide_eq_true h,hsp])
   have e1:ua F p q pf=[]++[q]:=by unfold ua;rw[hno];rfl
   have e2:ua F p q (pf++[s])=wN F s 20 q:=by
    unfold ua;rw[List.find?_append,hno,List.find?_cons,decide_eq_true hsp];rfl
   have hgv:zW s.pu q<20:=by
    have:=vi (pu:=s.pu).mp hq;have:F.yc s.pu<=12:=by have:=ok.a1;have:=ok.b1;unfold zC.yc;split <;> assumption
    omega
   rw[e1,e2];exact Y8 hs hsp 20 [] q 1000000 hq (by omega) (by omega) (by simp) none
  .have e2:ua F p q (pf++[s])=ua F p q pf:=by
    unfold ua;rw[List.find?_append,List.find?_cons,decide_eq_false hsp];cases pf.find? (λ s=>decide (s.p=p)) <;> rfl
   obtain⟨pre,r,e3⟩:∃ pre r,ua F p q pf=pre++[r]:=by
    unfold ua;cases pf.find? (λ s=>decide (s.p=p)) with
    | none=>exact⟨[],q,rfl⟩
    | some s=>exact Y3 20 q
   rw[e2,e3];exact O3 hsp pre r 999999 none)
 subst h2;have hw3:=Pg F;have e:ua F p q F.ss=yV F p q:=rfl;rw[e] at h1;unfold lL Wc;generalize oZ=b2 at *;generalize F.ss.map yA=SS at *;generalize (yV F p q).map zo=CC at *;generalize zx F=fl at *;generalize zo q=pq at *;simp only[zp] at hw3;simp[hw3,h1]
end yE
namespace yE
open PySem L2 L3 L5 RN
structure Fix (F:zC) (l:List Bd):Prop where
 ok:F.Ok
 len:l.length=F.os.length
 gd:∀ b∈l,Gd F.A F.B b
 pw:F.ss.Pairwise (λ a b=>a.p≠b.p)
 go:∀ p<F.os.length,∀ q,xP F q->zZ (l.getD p []) q=oK F l p q
noncomputable def vy (F:zC) (l:List Bd) (p:Nat) (q:Int×Int):Nat×Nat:=(uX F l p 0 (yV F p q)).getD (0,0)
noncomputable def vo (F:zC) (l:List Bd) (p:Nat) (q:Int×Int):T:=.tup [zo q,.int ((vy F l p q).1:Int),.int ((vy F l p q).2:Int)]
noncomputable def xH (F:zC) (l:List Bd) (p:Nat):T:=if F.os.getD p false=true then .tup ((l.getD p []).map (vo F l p)) else .tup []
section
variable {F:zC}{l:List Bd}
theorem Fix.at (X:Fix F l) {p:Nat}(hp:p<F.os.length):Gd F.A F.B (l.getD p []):=by
 have hp':p<l.length:=by rw[X.len];exact hp
 rw[List.getD_eq_getElem?_getD,List.getElem?_eq_getElem hp'];exact X.gd _ (List.getElem_mem hp')
theorem Fix.sz (X:Fix F l):∀ b∈l,b.length<=10000:=λ b hb=>by
 have:=(X.gd b hb).qo X.ok.a0;have:=X.ok.a1;omega
theorem Fix.cF (X:Fix F l) {p:Nat}(hp:p<F.os.length):(l.getD p []).length<=10000:=by
 have:=(X.at hp).qo X.ok.a0;have:=X.ok.a1;omega
theorem Fix.on (X:Fix F l) {p:Nat}(hp:p<F.os.length) {q:Int×Int}(hq:q∈l.getD p []):xP F q/\oK F l p q=true:=by
 have hi:xP F q:=(X.at hp).wx q hq;exact⟨hi,by rw[<- X.go p hp q hi];exact yJ.mpr ⟨q,hq,Int.le_refl _,Int.le_refl _⟩⟩
theorem Fix.Yg (X:Fix F l) {p:Nat}(hp:p<F.os.length) (ho:F.os.getD p false=true) {q:Int×Int}(hq:q∈l.getD p []):xP F q/\uX F l p 0 (yV F p q)=some (vy F l p q):=by
 obtain⟨h1,h2⟩:=X.on hp hq;unfold oK at h2;rw[if_pos ho] at h2;obtain⟨x,hx⟩:=Yf (k:=0) h2;exact⟨h1,by unfold vy;rw[hx];rfl⟩
theorem af {p:Nat}(hp:p<F.os.length):L2.yh (F.os.map kt) (p:Int)=some (kt (F.os.getD p false)):=wQ (by rw[List.getElem?_map,List.getD_eq_getElem?_getD,List.getElem?_eq_getElem hp];rfl)
theorem Ze (b:Bool):zM true (kt b) (.str "keeper")=some (.bl (!b)):=by
 have h:(("taker":Str) == ("keeper":Str))=false:=by decide
 cases b
 .show zM true (.str "taker") (.str "keeper")=_;simp[zM,dep,eqT,h]
 .show zM true (.str "keeper") (.str "keeper")=_;simp[zM,dep,eqT]
theorem Qt (b:Bool):zM false (kt b) (.str "taker")=some (.bl (!b)):=by
 have h:(("keeper":Str) == ("taker":Str))=false:=by decide
 cases b
 .show zM false (.str "taker") (.str "taker")=_;simp[zM,dep,eqT]
 .show zM false (.str "keeper") (.str "taker")=_;simp[zM,dep,eqT,h]
theorem N0 (X:Fix F l) {p:Nat}(hp:p<F.os.length):n9 [zx F,.int (p:Int),rT l]=some (xH F l p):=by
 have hw1:=fR F;have ho:=af hp;have hix:=px l p (by rw[X.len];exact hp);unfold xH;cases hk:F.os.getD p false with
 | false=>
  rw[hk] at ho;have he:zM true (kt false) (.str "keeper")=some (.bl true):=Ze false;unfold n9 dX;generalize l5=cc at *;generalize F.os.map kt=OS at *;generalize zx F=fl at *;generalize rT l=rl at *;generalize kt false=kf at *;generalize (T.str "keeper")=ks at *;generalize zM true=ee at *;simp only[zp] at hw1;simp[hw1,ho,he]
 | true=>
  have hc:l5 [some (.im (zx F)),some (.im (.int (p:Int))),some (.im (rT l))]=some (.lst ((l.getD p []).map (vo F l p))):=by
   unfold l5;refine tJ zo (vo F l p) (l.getD p []) ?_ (by have:=X.cF hp;omega) λ q hq=>?_
   .generalize bT (l.getD p [])=bt at *;have hbt:wX (bT (l.getD p []))=some ((l.getD p []).map zo):=rfl;have hix':zb zp (zc 2) (zc 1) [some (.im (zx F)),some (.im (.int (p:Int))),some (.im (rT l))]=some (bT (l.getD p [])):=px l p (by rw[X.len];exact hp);show (zb zp (zc 2) (zc 1) _).bind wX=_;rw[hix'];exact hbt
   .obtain⟨h1,h2⟩:=X.Yg hp hk hq;have h3:=NF X.ok X.len X.sz hp h1;rw[h2] at h3;unfold vo;generalize lN=f1 at *;generalize zx F=fl at *;generalize rT l=rl at *;generalize zo q=pq at *;simp[h3,dT]
  rw[hk] at ho;have he:zM true (kt true) (.str "keeper")=some (.bl false):=Ze true;unfold n9 dX;generalize l5=cc at *;generalize (l.getD p []).map (vo F l p)=RR at *;generalize F.os.map kt=OS at *;generalize zx F=fl at *;generalize rT l=rl at *;generalize kt true=kf at *;generalize (T.str "keeper")=ks at *;generalize zM true=ee at *;simp only[zp] at hw1;simp[hw1,ho,he,hc]
noncomputable def wV (F:zC) (l:List Bd):List T:=(List.range F.os.length).map (xH F l)
theorem Nx (X:Fix F l) (hB:qI [zx F]=some (rT l)):n5 [zx F]=some (.lst (wV F l)):=by
 have h8:=X.ok.n8;have hr:=qU F.os.length (by omega);have hpl:=dM F;have hc:j0 [some (.im (zx F)),some (.im (rT l))]=some (.lst ((List.range F.os.length).map (xH F l))):=by
  unfold j0;refine tJ (λ k:Nat=>T.int (0+(k:Int))) (xH F l) (List.range F.os.length) ?_ (by simp;omega) λ p hp=>?_
  .generalize rO=f1 at *;generalize zx F=fl at *;generalize (List.range F.os.length).map (λ k:Nat=>T.int (0+(k:Int)))=RR at *;simp[hpl,hr]
  .have h1:=N0 X (List.mem_range.mp hp);generalize n9=f1 at *;generalize zx F=fl at *;generalize rT l=rl at *;simp[h1]
 unfold n5 XM wV;generalize j0=cc at *;generalize (List.range F.os.length).map (xH F l)=TT at *;generalize qI=f1 at *;generalize zx F=fl at *;generalize rT l=rl at *;simp[hB,hc]
theorem Xf (i:Int):nD [.int i]=some (.bl true):=by
 have ii:vT "int" "int"=true:=by decide
 have ib:vT "int" "bool"=false:=by decide
 unfold nD XX;simp[ii,ib]
theorem Pu (q:Int×Int):zM true (zo q) (zo q)=some (.bl false):=by
 simp[zM,zo,dep,yC,eqT,we]
theorem N1 (X:Fix F l) {p:Nat}(hp:p<F.os.length) (ho:F.os.getD p false=true) {q:Int×Int}(hq:q∈l.getD p []):lK [zx F,rT l,.int (p:Int),zo q,vo F l p q]=some (.bl true):=by
 obtain⟨hi,hd⟩:=X.Yg hp ho hq;obtain⟨_,r,w,g1,g2,g3,g4⟩:=Ye hd;rw[Nat.sub_zero] at g1;have h1:=NK X.ok X.pw p hi;have h2:=Xi (F:=F) (l:=l) (q:=r) (w:=w) (by rw[X.len];exact (X.ok.ws w (List.mem_of_getElem? g2)).2);rw[g4] at h2;have h3:L2.yh ((yV F p q).map zo) ((vy F l p q).1:Int)=some (zo r):=wQ (by rw[List.getElem?_map,g1];rfl);have h4:L2.yh (F.ws.map zT) ((vy F l p q).2:Int)=some (zT w):=wQ (by rw[List.getElem?_map,g2];rfl);have h5:zp (zT w) (.int 0)=some (.int (p:Int)):=by simp[zT,g3]
 have hw2:=jk F;have l1:((vy F l p q).1:Int)<((yV F p q).length:Int):=by
  have:=(List.getElem?_eq_some_iff.mp g1).1;omega
 have l2:((vy F l p q).2:Int)<(F.ws.length:Int):=by
  have:=(List.getElem?_eq_some_iff.mp g2).1;omega
 have k1:x9 [.lst ((yV F p q).map zo)]=some (.int ((yV F p q).length:Int)):=by simp
 have k2:x9 [.tup (F.ws.map zT)]=some (.int (F.ws.length:Int)):=by simp
 have w1:=Xf ((vy F l p q).1:Int);have w2:=Xf ((vy F l p q).2:Int);have e1:=Pu q;have e2:zM true (.int (p:Int)) (.int (p:Int))=some (.bl false):=by simp[eq_int]
 have e3:zM true (.int 3) (.int 3)=some (.bl false):=by simp[eq_int]
 have it:vT "tuple" "tuple"=true:=by decide
 have z1:¬ ((vy F l p q).1:Int)<0:=by omega
 have z2:¬ ((vy F l p q).2:Int)<0:=by omega
 have l1':¬ ((yV F p q).length:Int)<=((vy F l p q).1:Int):=by omega
 have l2':¬ (F.ws.length:Int)<=((vy F l p q).2:Int):=by omega
 unfold vo;generalize (vy F l p q).1=x at *;generalize (vy F l p q).2=y at *;have hcut:uY [zo q,.int (x:Int),.int (y:Int)] (some 1) none=[.int (x:Int),.int (y:Int)]:=rfl;have hl3:x9 [.tup [zo q,.int (x:Int),.int (y:Int)]]=some (.int 3):=by simp
 unfold lK X_;generalize (x:Int)=xi at *;generalize (y:Int)=yi at *;generalize ((yV F p q).length:Int)=cl at *;generalize (F.ws.length:Int)=wl at *;generalize (yV F p q).map zo=CC at *;generalize F.ws.map zT=WS at *;generalize lL=f1 at *;generalize qH=f2 at *;generalize nD=f3 at *;generalize zx F=fl at *;generalize rT l=rl at *;generalize zT w=wt at *;generalize zo r=pr at *;simp only[zo] at h1 e1 hl3 hcut ⊢;generalize x9=ln at *;generalize zM true=ee at *;simp only[zp] at hw2 h5;simp[it,hl3,e1,e2,e3,hcut,h1,w1,w2,yH,z1,z2,k1,k2,l1',l2',hw2,h3,h4,h5,h2]
theorem N3 (X:Fix F l) {p:Nat}(hp:p<F.os.length):nG [zx F,rT l,.int (p:Int),xH F l p]=some (.bl true):=by
 have hw1:=fR F;have hw2:=jk F;have ho:=af hp;have hkt:=Qt (F.os.getD p false);have hix:=px l p (by rw[X.len];exact hp);have it:vT "tuple" "tuple"=true:=by decide
 have hsz:=X.cF hp;unfold xH;cases hk:F.os.getD p false with
 | true=>
  rw[hk] at ho hkt;have hr:=qU (l.getD p []).length (by omega);have k1:x9 [.tup ((l.getD p []).map (vo F l p))]=some (.int ((l.getD p []).length:Int)):=by simp
  have k2:x9 [bT (l.getD p [])]=some (.int ((l.getD p []).length:Int)):=by simp[bT]
  have e1:zM true (.int ((l.getD p []).length:Int)) (.int ((l.getD p []).length:Int))=some (.bl false):=by simp[eq_int]
  have hc:l4 [some (.im (zx F)),some (.im (rT l)),some (.im (.int (p:Int))),some (.im (.tup ((l.getD p []).map (vo F l p)))),some (.im (bT (l.getD p []))),none,none]=some (.lst ((List.range (l.getD p []).length).map λ _=>T.bl true)):=by
   unfold l4;refine tJ (λ k:Nat=>T.int (0+(k:Int))) (λ _=>T.bl true) (List.range (l.getD p []).length) ?_ (by rw[List.length_range];omega) λ k hk'=>?_
   .generalize (List.range (l.getD p []).length).map (λ k:Nat=>T.int (0+(k:Int)))=RR at *;generalize (l.getD p []).length=bn at *;generalize x9=ln at *;generalize bT (l.getD p [])=bt at *;simp[k2,hr]
   .have hkl:=List.mem_range.mp hk';have h1:L2.yh ((l.getD p []).map zo) (k:Int)=some (zo (l.getD p [])[k]):=wQ (by rw[List.getElem?_map,List.getElem?_eq_getElem hkl];rfl);have h2:L2.yh ((l.getD p []).map (vo F l p)) (k:Int)=some (vo F l p (l.getD p [])[k]):=wQ (by rw[List.getElem?_map,List.getElem?_eq_getElem hkl];rfl);have h3:=N1 X hp hk (List.getElem_mem hkl);have hbt:bT (l.getD p [])=.tup ((l.getD p []).map zo):=rfl;rw[hbt];generalize (l.getD p [])[k]=q at *;generalize (l.getD p []).map zo=BB at *;generalize (l.getD p []).map (vo F l p)=RR at *;generalize vo F l p q=tr at *;generalize zo q=pq at *;generalize lK=f1 at *;generalize zx F=fl at *;generalize rT l=rl at *;simp[h1,h2,h3]
  have hall:=j9 (λ _:Nat=>true) (List.range (l.getD p []).length);have hat:((List.range (l.getD p []).length).map λ _:Nat=>true).all id=true:=by simp
  unfold nG dZ;generalize (List.range (l.getD p []).length).map (λ _:Nat=>true)=BS at *;generalize (List.range (l.getD p []).length).map (λ _:Nat=>T.bl true)=TS at *;clear hr;generalize (l.getD p []).length=bn at *;generalize l4=c3 at *;generalize l7=c1 at *;generalize lB=b1 at *;generalize (l.getD p []).map (vo F l p)=RR at *;generalize bT (l.getD p [])=bt at *;generalize F.os.map kt=OS at *;generalize zx F=fl at *;generalize rT l=rl at *;generalize kt true=kf at *;generalize (T.str "taker")=ks at *;generalize x9=ln at *;generalize zM=ee at *;simp only[zp] at hw1 hix;simp[hix,it,hw1,ho,hkt,k1,k2,e1,hc,hall,hat]
 | false=>
  rw[hk] at ho hkt;have hc1:l7 [some (.im (zx F)),some (.im (rT l)),some (.im (.int (p:Int))),some (.im (.tup [])),some (.im (bT (l.getD p []))),none,none]=some (.lst ((x_ F p).map zT)):=by
   have:=mL zT (λ w=>if w.f=p then some (zT w) else none) (pick:=[none,some 2]) (it:=xB (zb zp (zc 0) (cS (.int 2)))) (g:=zK 0) (c:=zR (zb (zM false) (zb zp (zc 0) (cS (.int 0))) (zc 1))) (f:=zt 0) (ρ:=[some (.im (zx F)),some (.im (rT l)),some (.im (.int (p:Int))),some (.im (.tup [])),some (.im (bT (l.getD p []))),none,none]) F.ws (by
    generalize zx F=fl at *;generalize F.ws.map zT=WS at *;simp only[zp] at hw2;simp[hw2]) (by have:=X.ok.rS;omega) (λ w _=>by
    by_cases c:w.f=p
    .simp[zT,eq_int,c]
    .have c':¬ ((w.f:Int)=(p:Int)):=by omega
     simp[zT,eq_int,c,c'])
   unfold l7;rw[this];congr 2;unfold x_
   induction F.ws with
   | nil=>rfl
   | cons a l ih=>by_cases c:a.f=p <;> simp[List.filterMap_cons,c,ih]
  have hloop:=g_ (is:=[6]) (g:=zK 6) (b:=lB) zo (λ _=>false) (.bl false) [some (.im (zx F)),some (.im (rT l)),some (.im (.int (p:Int))),some (.im (.tup [])),some (.im (bT (l.getD p []))),some (.im (.lst ((x_ F p).map zT))),none] (l.getD p []) [some (.im (zx F)),some (.im (rT l)),some (.im (.int (p:Int))),some (.im (.tup [])),some (.im (bT (l.getD p []))),some (.im (.lst ((x_ F p).map zT))),none] (by simp) λ q hq=>by
   obtain⟨_,hg⟩:=X.on hp hq;unfold oK at hg;rw[if_neg (by rw[hk];decide)] at hg;have hc2:jw [some (.im (zx F)),some (.im (rT l)),some (.im (.int (p:Int))),some (.im (.tup [])),some (.im (bT (l.getD p []))),some (.im (.lst ((x_ F p).map zT))),some (.im (zo q))]=some (.lst ((x_ F p).map λ w=>T.bl (xA F l q w))):=by
    unfold jw;refine tJ zT (λ w=>T.bl (xA F l q w)) (x_ F p) (by simp) (by
     have:(x_ F p).length<=F.ws.length:=List.length_filter_le _ _;have:=X.ok.rS;omega) λ w hw=>?_
    have hw':w∈F.ws:=(List.mem_filter.mp hw).1;have h2:=Xi (F:=F) (l:=l) (q:=q) (w:=w) (by rw[X.len];exact (X.ok.ws w hw').2);generalize qH=f1 at *;generalize zx F=fl at *;generalize rT l=rl at *;generalize zo q=pq at *;generalize zT w=wt at *;simp[h2]
   have hall:=j9 (xA F l q) (x_ F p);have hat:((x_ F p).map (xA F l q)).all id=true:=by rw[List.all_map];simpa using hg
   refine⟨[some (.im (zx F)),some (.im (rT l)),some (.im (.int (p:Int))),some (.im (.tup [])),some (.im (bT (l.getD p []))),some (.im (.lst ((x_ F p).map zT))),some (.im (zo q))],by simp,?_⟩;rw[if_neg (by decide)];unfold turn lB;generalize (x_ F p).map (xA F l q)=BS at *;generalize (x_ F p).map (λ w=>T.bl (xA F l q w))=TS at *;generalize jw=c2 at *;generalize (x_ F p).map zT=WW at *;generalize bT (l.getD p [])=bt at *;generalize zx F=fl at *;generalize rT l=rl at *;generalize zo q=pq at *;simp[hc2,hall,hat]
  have hany:(l.getD p []).any (λ _=>false)=false:=by simp
  rw[hany,if_neg (by decide)] at hloop;have e1:zM false (.tup []) (.tup [])=some (.bl true):=by simp[zM,dep,yC,eqT,we]
  have hbt:bT (l.getD p [])=.tup ((l.getD p []).map zo):=rfl;rw[hbt] at hix hc1 hloop;unfold nG dZ;simp only[Bool.false_eq_true,if_false];generalize l4=c3 at *;generalize l7=c1 at *;generalize lB=b1 at *;generalize (x_ F p).map zT=WW at *;generalize (l.getD p []).map zo=BB at *;generalize F.os.map kt=OS at *;generalize zx F=fl at *;generalize rT l=rl at *;generalize kt false=kf at *;generalize (T.str "taker")=ks at *;generalize zM=ee at *;simp only[zp] at hw1 hix;simp[hix,it,hw1,ho,hkt,hc1,hloop,e1]
end
end yE
namespace yE
open PySem L2 L3 L5 RN
theorem NR {F:zC}{pre:List (List Bd)}{lst:List Bd}(hr:nA [zx F]=some (.lst ((pre++[lst]).map rT))):qI [zx F]=some (rT lst):=by
 have hix:L2.yh ((pre++[lst]).map rT) (-1)=some (rT lst):=by
  rw[List.map_append];exact lC
 unfold qI Wq;generalize (pre++[lst]).map rT=L at *;generalize nA=f1 at *;generalize zx F=fl at *;simp[hr,hix]
theorem Ph {F:zC}(ok:F.Ok) (hpw:F.ss.Pairwise (λ a b=>a.p≠b.p)) {m:Nat}(hg:∀ b∈xl F m,Gd F.A F.B b) (hst:xl F (m+1)=xl F m):Fix F (xl F m):=by
 refine⟨ok,fy F m,hg,hpw,λ p hp q hq=>?_⟩;have hg':∀ p,Gd F.A F.B ((xl F m).getD p []):=λ p=>by
  rcases Nat.lt_or_ge p (xl F m).length with h | h
  .rw[List.getD_eq_getElem?_getD,List.getElem?_eq_getElem h];exact hg _ (List.getElem_mem h)
  .rw[List.getD_eq_getElem?_getD,List.getElem?_eq_none h];exact Gd.nil
 have e:(xl F m).getD p []=xk F (xl F m) p:=by
  have:(xl F (m+1)).getD p []=xk F (xl F m) p:=fJ (λ p=>xk F (xl F m) p) F.os.length p [] hp;rw[hst] at this;exact this
 rw[e];exact RI ok hg' p hq
theorem PY (F:zC) (l:List Bd) (p:Nat):dep (xH F l p)<=3:=by
 unfold xH;split
 .have:=lj (vo F l p) 2 (λ q=>by simp[vo,zo,dep,yC]) (l.getD p []);show 1+yC _<=3;omega
 .simp[dep,yC]
theorem Qq (ns:List Int) (_:ns.length<=63):nM [yv ns]=some (.bl true):=by
 obtain⟨F,h1,ok,hw,hpw⟩:=NA ns;obtain⟨more,hr,hn,hm,hR⟩:=N2 ok;have n1:=ok.n1;have n8:=ok.n8;have hne:List.range F.os.length≠[]:=λ h=>by
  have h2:=congrArg List.length h;rw[List.length_range] at h2;rw[h2] at n1;exact absurd n1 (by decide)
 obtain⟨m,e,hst⟩:=bo ok hw 2000 [] 0 (List.range F.os.length) _ (St.start ok) hne rfl hR;have e':RN.start F::more=(List.range m).map (xl F)++[xl F m]:=by rw[e,List.range_succ,List.map_append];rfl
 rw[e'] at hr hn;have X:Fix F (xl F m):=Ph ok hpw (hn (xl F m) (by simp)).2 hst;have hB:=NR hr;have hT:=Nx X hB;generalize xl F m=l at *;have hlt:(wV F l).length=F.os.length:=by unfold wV;simp
 have hrg:=qU F.os.length (by omega);have k1:x9 [.lst (wV F l)]=some (.int (F.os.length:Int)):=by simp[hlt]
 have k2:x9 [.tup (F.os.map kt)]=some (.int (F.os.length:Int)):=by simp
 have hc:j6 [some (.im (yv ns)),some (.im (zx F)),some (.im (rT l)),some (.own (.lst (wV F l))),none]=some (.lst ((List.range F.os.length).map λ _=>T.bl true)):=by
  unfold j6;refine tJ (λ k:Nat=>T.int (0+(k:Int))) (λ _=>T.bl true) (List.range F.os.length) ?_ (by rw[List.length_range];omega) λ k hk=>?_
  .generalize (List.range F.os.length).map (λ k:Nat=>T.int (0+(k:Int)))=RR at *;generalize x9=ln at *;generalize wV F l=tt at *;simp[k1,hrg]
  .have hkl:=List.mem_range.mp hk;have h3:L2.yh (wV F l) (k:Int)=some (xH F l k):=wQ (by unfold wV;rw[List.getElem?_map,List.getElem?_range hkl];rfl);have h4:=N3 X hkl;generalize wV F l=tt at *;generalize xH F l k=rr at *;generalize nG=f1 at *;generalize zx F=fl at *;generalize rT l=rl at *;simp[h3,h4]
 have hall:=j9 (λ _:Nat=>true) (List.range F.os.length);have hat:((List.range F.os.length).map λ _:Nat=>true).all id=true:=by simp
 have hw1:=fR F;have e1:zM true (.int (F.os.length:Int)) (.int (F.os.length:Int))=some (.bl false):=by simp[eq_int]
 have e2:zM false (.lst (wV F l)) (.lst (wV F l))=some (.bl true):=by
  have:dep (.lst (wV F l))<=60:=by
   have:=lj (xH F l) 3 (PY F l) (List.range F.os.length);show 1+yC (wV F l)<=60;unfold wV;omega
  unfold zM;rw[if_pos ⟨this,this⟩,jr];rfl
 have h0:wL (wV F l).length 0=some 0:=by
  unfold wL;rw[hlt,if_pos (by omega),if_pos (by omega)];rfl
 have hll:(wV F l).length<=16777216:=by omega
 have il:vT "list" "list"=true:=by decide
 unfold nM Wg;generalize (List.range F.os.length).map (λ _:Nat=>true)=BS at *;generalize (List.range F.os.length).map (λ _:Nat=>T.bl true)=TS at *;clear hrg;generalize wV F l=tt at *;generalize (F.os.length:Int)=nn at *;generalize j6=c1 at *;generalize nJ=f1 at *;generalize qI=f2 at *;generalize n5=f3 at *;generalize F.os.map kt=OS at *;generalize zx F=fl at *;generalize rT l=rl at *;generalize yv ns=sc at *;generalize x9=ln at *;generalize zM=ee at *;simp only[zp] at hw1;simp[h1,hB,hT,il,k1,k2,hw1,e1,hc,hall,hat,hll,h0,e2]
end yE
namespace PySem.W.Fast
theorem te14397949252868871957:True:=trivial
theorem tw12093967518012711863:True:=trivial
theorem tw10208240354146904146:True:=trivial
theorem tw14149290367046594335:True:=trivial
theorem tw10243547758770807102:True:=trivial
theorem tw11470863394018455086:True:=trivial
theorem tw1804155992708485576:True:=trivial
theorem tw579306697588827696:True:=trivial
theorem tw4137792832909558190:True:=trivial
theorem tw16034254068548958350:True:=trivial
theorem tw4046249992494825364:True:=trivial
theorem tw371668361443020559:True:=trivial
theorem tw3777966714282132819:True:=trivial
theorem tw10255604161567044537:True:=trivial
theorem tw11099400737464875927:True:=trivial
theorem tw15504060787034222496:True:=trivial
theorem tw9264154448943402:True:=trivial
theorem tw266332113433585642:True:=trivial
theorem tw10902247776309407016:True:=trivial
theorem tw1918226296725647595:True:=trivial
theorem tw10708170237130111323:True:=trivial
theorem tw12127873215175756314:True:=trivial
theorem tw843498913113279088:True:=trivial
theorem tw2809299184564336073:True:=trivial
theorem tw9398907773686318277:True:=trivial
theorem tw2960666381408609113:True:=trivial
theorem tw17181128411872424653:True:=trivial
theorem tw10396256233905806533:True:=trivial
theorem tw8696180776086914106:True:=trivial
theorem tw5817759069120732618:True:=trivial
theorem tw4852413330719125750:True:=trivial
theorem tw17774455341792870918:True:=trivial
theorem tw8864381193220610688:True:=trivial
theorem tw5034835223196585689:True:=trivial
theorem tw9151725926424581022:True:=trivial
theorem tw13204416690238555387:True:=trivial
theorem tw12598703007086219598:True:=trivial
theorem tw16215092099191681509:True:=trivial
theorem tw472161609502481451:True:=trivial
theorem tw7340033995071833994:True:=trivial
theorem tw18136713101018901923:True:=trivial
theorem tw5841323536114765015:True:=trivial
theorem tw5333926774182624384:True:=trivial
theorem tw83436409420388216:True:=trivial
theorem tw12881931455559582673:True:=trivial
theorem tw15525999274569664648:True:=trivial
theorem tw9343090618023845324:True:=trivial
theorem tw15994694120316110595:True:=trivial
theorem tw426915195057313413:True:=trivial
theorem tw9318475201979176480:True:=trivial
theorem tw11472421220141327074:True:=trivial
theorem tw521707332946112183:True:=trivial
theorem tw18047727605845021747:True:=trivial
theorem tw15583833744547274254:True:=trivial
theorem tw1032317273020815721:True:=trivial
theorem tw14420679913647265454:True:=trivial
theorem tw7431569082819329363:True:=trivial
theorem tw8648353051530708210:True:=trivial
theorem tw18299123594003357605:True:=trivial
theorem tw6532044122869754502:True:=trivial
theorem tw4638471117859254481:True:=trivial
theorem tw7667411867849792467:True:=trivial
theorem tw1110198842481143801:True:=trivial
theorem tw11215206930044423634:True:=trivial
theorem tw746995132443504058:True:=trivial
theorem tw18253467730022296448:True:=trivial
theorem tw15573513905463089661:True:=trivial
theorem tw15836859671731327873:True:=trivial
theorem tw13305856682002715470:True:=trivial
theorem tw12904123644728276730:True:=trivial
theorem tw11506303547562986077:True:=trivial
theorem tw8832212299881533127:True:=trivial
theorem tw4070402332023562322:True:=trivial
theorem tw5861304353757816681:True:=trivial
theorem tw17821972479733542018:True:=trivial
theorem tw1496585018287493945:True:=trivial
theorem tw10995662707061091944:True:=trivial
theorem tw9365978089295529171:True:=trivial
theorem tw7371509372056690306:True:=trivial
theorem tw12824902183208368277:True:=trivial
end PySem.W.Fast
namespace yE
open PySem L2 L3 L5
open PyProof.Rows hiding St
def yu (i:Nat):Stmt:=PySem.Challenge.pw_purseborder_k42_the_table_walked.main.body.getD i (.Pass ⟨0,0,0,0⟩)
abbrev hX:Stmt:=yu 5
abbrev hV:Stmt:=yu 6
abbrev iJ:Stmt:=yu 7
abbrev gf:Stmt:=yu 8
abbrev kz:Stmt:=yu 9
abbrev iI:Stmt:=yu 10
abbrev gq:Stmt:=yu 12
abbrev iL:Stmt:=yu 13
abbrev kA:Stmt:=yu 14
abbrev ma:Stmt:=yu 15
abbrev hZ:Stmt:=yu 16
abbrev md:Stmt:=yu 18
abbrev iK:Stmt:=yu 19
abbrev gp:Stmt:=yu 20
abbrev gk:Stmt:=yu 21
abbrev gm:Stmt:=yu 22
abbrev n_:Stmt:=yu 23
abbrev k8:Stmt:=yu 24
abbrev k7:Stmt:=yu 25
abbrev iH:Stmt:=yu 27
abbrev gh:Stmt:=yu 28
abbrev gi:Stmt:=yu 29
abbrev gj:Stmt:=yu 31
abbrev iM:Stmt:=yu 32
abbrev h_:Stmt:=yu 33
abbrev k6:Stmt:=yu 34
abbrev k5:Stmt:=yu 35
abbrev iZ:Stmt:=yu 37
abbrev iX:Stmt:=yu 38
abbrev i_:Stmt:=yu 39
abbrev iT:Stmt:=yu 40
abbrev iP:Stmt:=yu 41
abbrev iQ:Stmt:=yu 42
abbrev iW:Stmt:=yu 43
abbrev hJ:Stmt:=yu 44
abbrev iY:Stmt:=yu 45
abbrev iV:Stmt:=yu 46
abbrev iO:Stmt:=yu 47
abbrev iU:Stmt:=yu 48
abbrev iR:Stmt:=yu 49
abbrev oe:Stmt:=yu 50
abbrev k9:Stmt:=yu 51
theorem VI:yr ["thing"] ["thing"] (zL hX):=⟨rfl,rfl,rfl,by decide +kernel,rfl,by decide +kernel,by decide +kernel⟩
theorem VD:yr ["floor"] ["floor"] (zL iJ):=⟨rfl,rfl,rfl,by decide +kernel,rfl,by decide +kernel,by decide +kernel⟩
theorem VO:yr ["pair","other"] ["pair","other"] (zL gq):=⟨rfl,rfl,rfl,by decide +kernel,rfl,by decide +kernel,by decide +kernel⟩
theorem iC:yr ["pairs","least","pair"] ["pairs"] (zL iL):=⟨rfl,rfl,rfl,by decide +kernel,rfl,by decide +kernel,by decide +kernel⟩
theorem qP:yr ["brims","stall","pair","purse","pairs","given","got"] ["brims","stall","pair"] (zL iK):=⟨rfl,rfl,rfl,by decide +kernel,rfl,by decide +kernel,by decide +kernel⟩
theorem km:yr ["floor","pair","way","coins","first","second"] ["floor","pair","way"] (zL iH):=⟨rfl,rfl,rfl,by decide +kernel,rfl,by decide +kernel,by decide +kernel⟩
theorem kr:yr ["brims","stall","pair","times","purse","left","got"] ["brims","stall","pair","times"] (zL gh):=⟨rfl,rfl,rfl,by decide +kernel,rfl,by decide +kernel,by decide +kernel⟩
theorem VG:yr ["_law_script","_law_k"] ["_law_script","_law_k"] (zL iZ):=⟨rfl,rfl,rfl,by decide +kernel,rfl,by decide +kernel,by decide +kernel⟩
theorem VF:yr ["_law_number"] ["_law_number"] (zL iX):=⟨rfl,rfl,rfl,by decide +kernel,rfl,by decide +kernel,by decide +kernel⟩
theorem iG:yr ["_law_floor_here","_law_pair","_law_way","_law_first","_law_second"] ["_law_floor_here","_law_pair","_law_way"] (zL hJ):=⟨rfl,rfl,rfl,by decide +kernel,rfl,by decide +kernel,by decide +kernel⟩
theorem qR:yr ["_law_floor_here","_law_place_here","_law_pair","_law_found","_law_home","_law_purse","_law_give","_law_get","_law_coins_here"] ["_law_floor_here","_law_place_here","_law_pair"] (zL iY):=⟨rfl,rfl,rfl,by decide +kernel,rfl,by decide +kernel,by decide +kernel⟩
theorem iD:yr ["_law_border","_law_pair","_law_x","_law_y"] ["_law_border","_law_pair"] (zL iV):=⟨rfl,rfl,rfl,by decide +kernel,rfl,by decide +kernel,by decide +kernel⟩
theorem VE:yr ["_law_found"] ["_law_found"] (zL iO):=⟨rfl,rfl,rfl,by decide +kernel,rfl,by decide +kernel,by decide +kernel⟩
theorem VH:yr ["thing","least","most"] ["thing","least","most"] (zL hV):=⟨rfl,rfl,rfl,by decide +kernel,rfl,by decide +kernel,by decide +kernel⟩
theorem VJ:yr ["border","pair"] ["border","pair"] (zL kA):=⟨rfl,rfl,rfl,by decide +kernel,rfl,by decide +kernel,by decide +kernel⟩
theorem qT:yr ["border","other","steps","lows","shared","first","side","second"] ["border","other"] (zL ma):=⟨rfl,rfl,rfl,by decide +kernel,rfl,by decide +kernel,by decide +kernel⟩
theorem VL:yr ["border","other"] ["border","other"] (zL hZ):=⟨rfl,rfl,rfl,by decide +kernel,rfl,by decide +kernel,by decide +kernel⟩
theorem bc:yr ["brims","way","border","pairs"] ["brims","way","border"] (zL md):=⟨rfl,rfl,rfl,by decide +kernel,rfl,by decide +kernel,by decide +kernel⟩
theorem iE:yr ["_law_script","_law_many","_law_number","_law_found"] ["_law_script","_law_many"] (zL i_):=⟨rfl,rfl,rfl,by decide +kernel,rfl,by decide +kernel,by decide +kernel⟩
theorem nY:yr ["_law_script","_law_many","_law_number","_law_found","_law_place_here"] ["_law_script","_law_many"] (zL iT):=⟨rfl,rfl,rfl,by decide +kernel,rfl,by decide +kernel,by decide +kernel⟩
theorem uG:yr ["_law_script","_law_many","_law_number","_law_wide","_law_found","_law_place_here","_law_size","_law_k","_law_at","_law_drawn","_law_rest"] ["_law_script","_law_many"] (zL iP):=⟨rfl,rfl,rfl,by decide +kernel,rfl,by decide +kernel,by decide +kernel⟩
theorem qQ:yr ["_law_script","_law_owners_here","_law_found","_law_place_here","_law_drawn","_law_rest","_law_give","_law_get"] ["_law_script","_law_owners_here"] (zL iQ):=⟨rfl,rfl,rfl,by decide +kernel,rfl,by decide +kernel,by decide +kernel⟩
theorem c_:yr ["_law_floor_here","_law_told","_law_pair","_law_way","_law_behind_here"] ["_law_floor_here","_law_told","_law_pair","_law_way"] (zL iU):=⟨rfl,rfl,rfl,by decide +kernel,rfl,by decide +kernel,by decide +kernel⟩
theorem VM:yr ["floor","place"] ["floor","place"] (zL gf):=⟨rfl,rfl,rfl,by decide +kernel,rfl,by decide +kernel,by decide +kernel⟩
theorem ku:yr ["borders","joined","border"] ["borders"] (zL gk):=⟨rfl,rfl,rfl,by decide +kernel,rfl,by decide +kernel,by decide +kernel⟩
theorem kx:yr ["borders","joined","border"] ["borders"] (zL gm):=⟨rfl,rfl,rfl,by decide +kernel,rfl,by decide +kernel,by decide +kernel⟩
theorem cZ:yr ["floor","pair","way","held","behind"] ["floor","pair","way","held"] (zL iM):=⟨rfl,rfl,rfl,by decide +kernel,rfl,by decide +kernel,by decide +kernel⟩
theorem qb:yr ["_law_script","_law_number","_law_many","_law_owners_here","_law_brims_here","_law_ways_here","_law_stalls_here"] ["_law_script"] (zL iW):=⟨rfl,rfl,rfl,by decide +kernel,rfl,by decide +kernel,by decide +kernel⟩
theorem ko:yr ["_law_floor_here","_law_told","_law_place_here","_law_pair","_law_row_here","_law_times","_law_number","_law_some"] ["_law_floor_here","_law_told","_law_place_here","_law_pair","_law_row_here"] (zL iR):=⟨rfl,rfl,rfl,by decide +kernel,rfl,by decide +kernel,by decide +kernel⟩
theorem VB:yr ["floor","place"] ["floor","place"] (zL kz):=⟨rfl,rfl,rfl,by decide +kernel,rfl,by decide +kernel,by decide +kernel⟩
theorem cY:yr ["floor","place","stall"] ["floor","place"] (zL iI):=⟨rfl,rfl,rfl,by decide +kernel,rfl,by decide +kernel,by decide +kernel⟩
theorem kq:yr ["_law_floor_here","_law_told","_law_place_here","_law_rows","_law_border","_law_ways_here","_law_pair"] ["_law_floor_here","_law_told","_law_place_here","_law_rows"] (zL oe):=⟨rfl,rfl,rfl,by decide +kernel,rfl,by decide +kernel,by decide +kernel⟩
theorem ky:yr ["floor","place","border","stall","pairs","pair"] ["floor","place","border"] (zL gp):=⟨rfl,rfl,rfl,by decide +kernel,rfl,by decide +kernel,by decide +kernel⟩
theorem ba:yr ["floor","place","pair","times","stall"] ["floor","place","pair","times"] (zL gi):=⟨rfl,rfl,rfl,by decide +kernel,rfl,by decide +kernel,by decide +kernel⟩
theorem iB:yr ["floor","place","last","ways","ahead"] ["floor","place","last"] (zL n_):=⟨rfl,rfl,rfl,by decide +kernel,rfl,by decide +kernel,by decide +kernel⟩
theorem qS:yr ["floor","place","pair","held","ways","times","ready","way"] ["floor","place","pair","held"] (zL h_):=⟨rfl,rfl,rfl,by decide +kernel,rfl,by decide +kernel,by decide +kernel⟩
theorem i9:yr ["floor","last","fresh","following","place"] ["floor","last","fresh"] (zL k8):=⟨rfl,rfl,rfl,by decide +kernel,rfl,by decide +kernel,by decide +kernel⟩
theorem VC:yr ["floor","place","held"] ["floor","place","held"] (zL k6):=⟨rfl,rfl,rfl,by decide +kernel,rfl,by decide +kernel,by decide +kernel⟩
theorem oa:yr ["floor","told","fresh","last","following"] ["floor"] (zL k7):=⟨rfl,rfl,rfl,by decide +kernel,rfl,by decide +kernel,by decide +kernel⟩
theorem VN:yr ["floor"] ["floor"] (zL gj):=⟨rfl,rfl,rfl,by decide +kernel,rfl,by decide +kernel,by decide +kernel⟩
theorem cX:yr ["floor","held"] ["floor"] (zL k5):=⟨rfl,rfl,rfl,by decide +kernel,rfl,by decide +kernel,by decide +kernel⟩
theorem nZ:yr ["_law_script","_law_floor_here","_law_told","_law_found","_law_kept"] ["_law_script"] (zL k9):=⟨rfl,rfl,rfl,by decide +kernel,rfl,by decide +kernel,by decide +kernel⟩
section
variable (P:Program) (w:World) (K:PySem.W.Frag) (mg:Str->Option Value) (base:Heap)
abbrev X8:=FD P w K mg base "is_whole" 1 ["thing"] (yg zS jZ)
abbrev ia:=FD P w K mg base "places_of" 1 ["floor"] (yg zS rO)
abbrev dU:=FD P w K mg base "at_or_above" 1 ["pair","other"] (yg zS nR)
abbrev lT:=FD P w K mg base "least_pairs" 1 ["pairs"] (yg zS rP)
abbrev Xq:=FD P w K mg base "pairs_ahead_of_changes" 1 ["brims","stall","pair"] (yg zS lI)
abbrev Xn:=FD P w K mg base "step_by" 1 ["floor","pair","way"] (yg zS n6)
abbrev XC:=FD P w K mg base "change_by" 1 ["brims","stall","pair","times"] (yg zS pQ)
abbrev nS:=FD P w K mg base "_law_cell" 1 ["_law_script","_law_k"] (yg zS xQ)
abbrev X3:=FD P w K mg base "_law_coins" 1 ["_law_number"] (yg zS rQ)
abbrev X6:=FD P w K mg base "_law_behind" 1 ["_law_floor_here","_law_pair","_law_way"] (yg zS nL)
abbrev X4:=FD P w K mg base "_law_changes" 1 ["_law_floor_here","_law_place_here","_law_pair"] (yg zS lL)
abbrev X0:=FD P w K mg base "_law_held" 1 ["_law_border","_law_pair"] (yg zS nI)
abbrev Xu:=FD P w K mg base "_law_whole" 1 ["_law_found"] (yg zS nD)
abbrev X7:=FD P w K mg base "is_whole_within" 2 ["thing","least","most"] (yg zS jY)
abbrev X9:=FD P w K mg base "holds" 2 ["border","pair"] (yg zS nN)
abbrev XE:=FD P w K mg base "both" 2 ["border","other"] (yg zS lP)
abbrev XA:=FD P w K mg base "either" 2 ["border","other"] (yg zS lM)
abbrev XH:=FD P w K mg base "border_ahead_of_way" 2 ["brims","way","border"] (yg zS lS)
abbrev X5:=FD P w K mg base "_law_brims" 2 ["_law_script","_law_many"] (yg zS nK)
abbrev Xz:=FD P w K mg base "_law_owners" 2 ["_law_script","_law_many"] (yg zS nH)
abbrev Xv:=FD P w K mg base "_law_ways" 2 ["_law_script","_law_many"] (yg zS nE)
abbrev Xw:=FD P w K mg base "_law_stalls" 2 ["_law_script","_law_owners_here"] (yg zS nF)
abbrev dQ:=FD P w K mg base "_law_leads" 2 ["_law_floor_here","_law_told","_law_pair","_law_way"] (yg zS qH)
abbrev dR:=FD P w K mg base "check_place" 3 ["floor","place"] (yg zS lO)
abbrev XF:=FD P w K mg base "border_of_either" 3 ["borders"] (yg tj lQ)
abbrev XG:=FD P w K mg base "border_of_all" 3 ["borders"] (yg tj lR)
abbrev Xt:=FD P w K mg base "leads_into" 3 ["floor","pair","way","held"] (yg zS nC)
abbrev X2:=FD P w K mg base "_law_floor" 3 ["_law_script"] (yg zS nJ)
abbrev Xx:=FD P w K mg base "_law_row" 3 ["_law_floor_here","_law_told","_law_place_here","_law_pair","_law_row_here"] (yg zS lK)
abbrev dN:=FD P w K mg base "ways_from" 4 ["floor","place"] (yg zS qG)
abbrev dP:=FD P w K mg base "stall_at" 4 ["floor","place"] (yg tj sV)
abbrev Xy:=FD P w K mg base "_law_place" 4 ["_law_floor_here","_law_told","_law_place_here","_law_rows"] (yg zS nG)
abbrev XI:=FD P w K mg base "border_ahead_of_changes" 5 ["floor","place","border"] (yg tj nQ)
abbrev XD:=FD P w K mg base "change_at" 5 ["floor","place","pair","times"] (yg zS pR)
abbrev Xs:=FD P w K mg base "next_border" 6 ["floor","place","last"] (yg tj lJ)
abbrev XB:=FD P w K mg base "deed_into" 6 ["floor","place","pair","held"] (yg zS lN)
abbrev Xr:=FD P w K mg base "next_round" 7 ["floor","last","fresh"] (yg zS nB)
abbrev Xo:=FD P w K mg base "rows_at" 7 ["floor","place","held"] (yg zS n9)
abbrev Xp:=FD P w K mg base "rounds" 8 ["floor"] (yg zS nA)
abbrev dS:=FD P w K mg base "borders" 9 ["floor"] (yg tj qI)
abbrev Xm:=FD P w K mg base "table" 10 ["floor"] (yg zS n5)
variable {K mg} (T:Bt mg) (U:Bq mg)
include T U
theorem Rr (F:Fy K mg "is_whole" hX):X8 P w K mg base:=
 y8 (k:=0) F VI rfl (λ _ _ _ _ _ _=>tT λ _=>rfl) λ f cdv A outer s H E hr=>⟨_,
  (zI (zV (o5 (bW T (za 0 (pv 0))) (o4 (bU (bX T (za 0 (pv 0)))))))),
  (zX (o9 ((qh (zg 0))).fr (aB ((qh (zg 0))).fr)))⟩
theorem SN (F:Fy K mg "places_of" iJ):ia P w K mg base:=
 y8 (k:=0) F VD rfl (λ _ _ _ _ _ _=>tT λ _=>rfl) λ f cdv A outer s H E hr=>⟨_,
  (zI (zV (vP T.len (zf (zE (za 0 (pv 0)) zh) zr)))),
  (zX (yq vU (zP ((zm zF (zg 0) ((zi _)).fr)).er ye)))⟩
theorem RA (F:Fy K mg "at_or_above" gq):dU P w K mg base:=
 y8 (k:=0) F VO rfl (λ _ _ _ _ _ _=>u9 λ _ _=>rfl) λ f cdv A outer s H E hr=>⟨_,
  (zI (zV (o5 (b_ (zE (za 0 (pv 0)) zh) (zE (za 1 (pv 1)) zh)) (o4 (b_ (zE (za 0 (pv 0)) zh) (zE (za 1 (pv 1)) zh)))))),
  (zX (o9 ((pb ((zm zF (zg 0) ((zi _)).fr)).er ((zm zF (zg 1) ((zi _)).fr)).er)).fr (pb ((zm zF (zg 0) ((zi _)).fr)).er ((zm zF (zg 1) ((zi _)).fr)).er)))⟩
theorem SV (F:Fy K mg "least_pairs" iL):lT P w K mg base:=
 y8 (k:=0) F iC rfl (λ _ _ _ _ _ _=>tT λ _=>rfl) λ f cdv A outer s H E hr=>⟨_,
  (zA (zO 1 iC.nd (w_ zr))
  (zA (vD PassesOwn.never rfl (wa (bR T.sorted (zf (za 0 (pv 0)) zr))) (y7 2 iC.nd) (zI (yM (wg.pt (uo (se (vN (za 1 (pv 1)))) (qd (t5 hr (zE (za 2 (pv 2)) zh) (zE (zE (za 1 (pv 1)) (m5 zh)) zh))))) (zI (t6 (qf (za 1 (pv 1)) (za 2 (pv 2))))) yL)))
  (zI (zV (qX T.tuple (zf (za 1 (pv 1)) zr)))))),
  (zB (uL 1 (vb zG))
  (zB (vF (tD ((yq Z4 (zP (zg 0) ye))).fe) (xT 2) (yO (uq (sk (vQ (zg 1))) (yp (zm uP ((zm zF (zg 2) ((zi _)).fr)).er ((zm zF ((zm zF (zg 1) ((mC ((zi _)).fr)).fr)).er ((zi _)).fr)).er).fr)) (qg 1 (zw 2)) yN))
  (zX (yq p8 (zP (zg 1) ye)))))⟩
theorem SO (F:Fy K mg "pairs_ahead_of_changes" iK):Xq P w K mg base:=
 y8 (k:=0) F qP rfl (λ _ _ _ _ _ _=>sO λ _ _ _=>rfl) λ f cdv A outer s H E hr=>⟨_,
  (zA (zO 3 qP.nd (zE (za 1 (pv 1)) zh))
  (zA (zO 4 qP.nd (w_ zr))
  (zA (zO 5 qP.nd (zE (za 2 (pv 2)) (za 3 (pv 3))))
  (zA (zO 6 qP.nd (zE (za 2 (pv 2)) (vO zh (za 3 (pv 3)))))
  (zA (kF PassesOwn.never (Tr (za 5 (pv 5)) (zE (za 0 (pv 0)) (za 3 (pv 3)))) (zA (t6 (qf (za 4 (pv 4)) (TB (wZ hr (za 3 (pv 3)) zh) (xh (zf (za 5 (pv 5)) (zf (za 6 (pv 6)) zr))) (xh (zf (za 6 (pv 6)) (zf (za 5 (pv 5)) zr))))))
  (zA (zO 5 qP.nd (wb (za 5 (pv 5)) (zE (za 1 (pv 1)) zh)))
  (zI (zO 6 qP.nd (kI T.max (zf zh (zf (vO (za 6 (pv 6)) (zE (za 1 (pv 1)) zh)) zr))))))))
  (zI (zV (za 4 (pv 4))))))))),
  (zB (zY 3 (zm zF (zg 1) ((zi _)).fr))
  (zB (uL 4 (vb zG))
  (zB (zY 5 (zm zF (zg 2) (zg 3)))
  (zB (zY 6 (zm zF (zg 2) ((vR ((zi _)).fr (zg 3))).fr))
  (zB (kO (yp (SX (zg 5) ((zm zF (zg 0) (zg 3))).er).fr) (zB (qg 4 (Rt (yp (zm xD (zg 3) ((zi _)).fr).fr) ((xj (zj (zw 5) (zj (zw 6) zG)))).fe ((xj (zj (zw 6) (zj (zw 5) zG)))).fe))
  (zB (zY 5 ((zm good_add (zg 5) ((zm zF (zg 1) ((zi _)).fr)).er)).fe)
  (zY 6 ((yq jh (zP ((zi _)).fr (zP ((vR (zg 6) ((zm zF (zg 1) ((zi _)).fr)).er)).fr ye)))).fe))))
  (kP 4))))))⟩
theorem SG (F:Fy K mg "step_by" iH):Xn P w K mg base:=
 y8 (k:=0) F km rfl (λ _ _ _ _ _ _=>sO λ _ _ _=>rfl) λ f cdv A outer s H E hr=>⟨_,
  (zA (zO 3 km.nd (bS (zE (zE (za 0 (pv 0)) zh) (za 2 (pv 2))) (bN zh) bO))
  (zA (zO 4 km.nd (wb (zE (za 1 (pv 1)) zh) (zE (za 3 (pv 3)) zh)))
  (zA (zO 5 km.nd (wb (zE (za 1 (pv 1)) zh) (zE (za 3 (pv 3)) zh)))
  (zA (yM (wg.pt (uo (t5 hr (za 4 (pv 4)) zh) (qd (t5 hr (za 5 (pv 5)) zh)))) (zI (zV t8)) yL)
  (zI (zV (xh (zf (rn T.min (zf (za 4 (pv 4)) (zf (zE (zE (za 0 (pv 0)) zh) zh) zr))) (zf (rn T.min (zf (za 5 (pv 5)) (zf (zE (zE (za 0 (pv 0)) zh) zh) zr))) zr))))))))),
  (zB (zY 3 ((aA ((zm zF ((zm zF (zg 0) ((zi _)).fr)).er (zg 2))).er (az ((zi _)).fr) a9)).fe)
  (zB (zY 4 ((zm good_add ((zm zF (zg 1) ((zi _)).fr)).er ((zm zF (zg 3) ((zi _)).fr)).er)).fe)
  (zB (zY 5 ((zm good_add ((zm zF (zg 1) ((zi _)).fr)).er ((zm zF (zg 3) ((zi _)).fr)).er)).fe)
  (zB (yO (uq (yp (zm uP (zg 4) ((zi _)).fr).fr) (yp (zm uP (zg 5) ((zi _)).fr).fr)) (zX tG) yN)
  (zX (xj (zj ((yq rB (zP (zg 4) (zP ((zm zF ((zm zF (zg 0) ((zi _)).fr)).er ((zi _)).fr)).er ye)))).fe (zj ((yq rB (zP (zg 5) (zP ((zm zF ((zm zF (zg 0) ((zi _)).fr)).er ((zi _)).fr)).er ye)))).fe zG))))))))⟩
theorem R0 (F:Fy K mg "change_by" gh):XC P w K mg base:=
 y8 (k:=0) F kr rfl (λ _ _ _ _ _ _=>ng λ _ _ _ _=>rfl) λ f cdv A outer s H E hr=>⟨_,
  (zA (zO 4 kr.nd (zE (za 1 (pv 1)) zh))
  (zA (zO 5 kr.nd (vO (zE (za 2 (pv 2)) (za 4 (pv 4))) (qe (za 3 (pv 3)) (zE (za 1 (pv 1)) zh))))
  (zA (yM (t5 hr (za 5 (pv 5)) zh) (zI (zV t8)) yL)
  (zA (zO 6 kr.nd (rn T.min (zf (wb (zE (za 2 (pv 2)) (vO zh (za 4 (pv 4)))) (qe (za 3 (pv 3)) (zE (za 1 (pv 1)) zh))) (zf (zE (za 0 (pv 0)) (vO zh (za 4 (pv 4)))) zr))))
  (zA (yM (wZ hr (za 4 (pv 4)) zh) (zI (zV (xh (zf (za 5 (pv 5)) (zf (za 6 (pv 6)) zr))))) yL)
  (zI (zV (xh (zf (za 6 (pv 6)) (zf (za 5 (pv 5)) zr)))))))))),
  (zB (zY 4 (zm zF (zg 1) ((zi _)).fr))
  (zB (zY 5 ((vR ((zm zF (zg 2) (zg 4))).er ((zm qq (zg 3) ((zm zF (zg 1) ((zi _)).fr)).er)).fr)).fe)
  (zB (yO (yp (zm uP (zg 5) ((zi _)).fr).fr) (zX tG) yN)
  (zB (zY 6 ((yq rB (zP ((zm good_add ((zm zF (zg 2) ((vR ((zi _)).fr (zg 4))).fr)).er ((zm qq (zg 3) ((zm zF (zg 1) ((zi _)).fr)).er)).fr)).fr (zP ((zm zF (zg 0) ((vR ((zi _)).fr (zg 4))).fr)).er ye)))).fe)
  (zB (yO (yp (zm xD (zg 4) ((zi _)).fr).fr) (zX (xj (zj (zw 5) (zj (zw 6) zG)))) yN)
  (zX (xj (zj (zw 6) (zj (zw 5) zG)))))))))⟩
theorem Rm (F:Fy K mg "_law_cell" iZ):nS P w K mg base:=
 y8 (k:=0) F VG rfl (λ _ _ _ _ _ _=>u9 λ _ _=>rfl) λ f cdv A outer s H E hr=>⟨_,
  (zA (yM (t5 hr (za 1 (pv 1)) (vP T.len (zf (za 0 (pv 0)) zr))) (zI (zV (xc (zE (za 0 (pv 0)) (za 1 (pv 1))) (T4 zh zh)))) yL)
  (zI (zV zh))),
  (zB (yO (yp (zm uP (zg 1) ((yq vU (zP (zg 0) ye))).fr).fr) (zX (xf ((zm zF (zg 0) (zg 1))).er ((SM ((zi _)).fr ((zi _)).fr)).fr)) yN)
  (zX (zi _)))⟩
theorem Rj (F:Fy K mg "_law_coins" iX):X3 P w K mg base:=
 y8 (k:=0) F VF rfl (λ _ _ _ _ _ _=>tT λ _=>rfl) λ f cdv A outer s H E hr=>⟨_,
  (zA (yM (wZ hr (xc (za 0 (pv 0)) zh) zh) (zI (zV (vO (xc (wJ (za 0 (pv 0)) zh) zh) zh))) yL)
  (zI (zV (vO (xc (xc (wJ (za 0 (pv 0)) zh) zh) zh) zh)))),
  (zB (yO (yp (zm xD ((xf (zg 0) ((zi _)).fr)).fr ((zi _)).fr).fr) (zX (vR ((xf ((wK (zg 0) ((zi _)).fr)).fr ((zi _)).fr)).fr ((zi _)).fr)) yN)
  (zX (vR ((xf ((xf ((wK (zg 0) ((zi _)).fr)).fr ((zi _)).fr)).fr ((zi _)).fr)).fr ((zi _)).fr)))⟩
theorem Ro (F:Fy K mg "_law_behind" hJ):X6 P w K mg base:=
 y8 (k:=0) F iG rfl (λ _ _ _ _ _ _=>sO λ _ _ _=>rfl) λ f cdv A outer s H E hr=>⟨_,
  (zA (zO 3 iG.nd (wb (zE (za 1 (pv 1)) zh) (zE (za 2 (pv 2)) zh)))
  (zA (zO 4 iG.nd (wb (zE (za 1 (pv 1)) zh) (zE (za 2 (pv 2)) zh)))
  (zA (yM (wg.pt (uo (t5 hr (za 3 (pv 3)) zh) (qd (t5 hr (za 4 (pv 4)) zh)))) (zI (zV t8)) yL)
  (zI (zV (xh (zf (rn T.min (zf (za 3 (pv 3)) (zf (zE (zE (za 0 (pv 0)) zh) zh) zr))) (zf (rn T.min (zf (za 4 (pv 4)) (zf (zE (zE (za 0 (pv 0)) zh) zh) zr))) zr)))))))),
  (zB (zY 3 ((zm good_add ((zm zF (zg 1) ((zi _)).fr)).er ((zm zF (zg 2) ((zi _)).fr)).er)).fe)
  (zB (zY 4 ((zm good_add ((zm zF (zg 1) ((zi _)).fr)).er ((zm zF (zg 2) ((zi _)).fr)).er)).fe)
  (zB (yO (uq (yp (zm uP (zg 3) ((zi _)).fr).fr) (yp (zm uP (zg 4) ((zi _)).fr).fr)) (zX tG) yN)
  (zX (xj (zj ((yq rB (zP (zg 3) (zP ((zm zF ((zm zF (zg 0) ((zi _)).fr)).er ((zi _)).fr)).er ye)))).fe (zj ((yq rB (zP (zg 4) (zP ((zm zF ((zm zF (zg 0) ((zi _)).fr)).er ((zi _)).fr)).er ye)))).fe zG)))))))⟩
theorem Rl (F:Fy K mg "_law_changes" iY):X4 P w K mg base:=
 y8 (k:=0) F qR rfl (λ _ _ _ _ _ _=>sO λ _ _ _=>rfl) λ f cdv A outer s H E hr=>⟨_,
  (zA (zO 3 qR.nd (w_ (zf (za 2 (pv 2)) zr)))
  (zA (vD PassesOwn.never rfl (wa (zE (za 0 (pv 0)) zh)) (oz (n:=4) (vE (y7 4 qR.nd) (vE (y7 5 qR.nd) (vE (y7 6 qR.nd) (vE (y7 7 qR.nd) oy))))) (zI (kF PassesOwn.never (wg.pt (ox (wZ hr (za 4 (pv 4)) (za 1 (pv 1))) (ou (my (zE (zE (za 3 (pv 3)) (m5 zh)) (za 5 (pv 5))) (za 6 (pv 6)))))) (zA (zO 8 qR.nd (m6 T.list (zf (zE (za 3 (pv 3)) (m5 zh)) zr)))
  (zA (kG (za 8 (pv 8)) (za 5 (pv 5)) (vO (zE (za 8 (pv 8)) (za 5 (pv 5))) (za 6 (pv 6))))
  (zA (kG (za 8 (pv 8)) (vO zh (za 5 (pv 5))) (rn T.min (zf (wb (zE (za 8 (pv 8)) (vO zh (za 5 (pv 5)))) (za 7 (pv 7))) (zf (zE (zE (za 0 (pv 0)) zh) (vO zh (za 5 (pv 5)))) zr))))
  (zI (t6 (qf (za 3 (pv 3)) (qX T.tuple (zf (za 8 (pv 8)) zr)))))))))))
  (zI (zV (za 3 (pv 3)))))),
  (zB (uL 3 (vb (zj (zw 2) zG)))
  (zB (vF (tD (zm zF (zg 0) ((zi _)).fr)) (kS (tE (xT 4) (tE (xT 5) (tE (xT 6) (tE (xT 7) kR))))) (kO (o8 (yp (zm xD (zg 4) (zg 1)).fr) (yp (pb ((zm zF ((zm zF (zg 3) ((mC ((zi _)).fr)).fr)).er (zg 5))).er (zg 6)).fr)) (zB (uL 8 (yq mR (zP ((zm zF (zg 3) ((mC ((zi _)).fr)).fr)).er ye)))
  (zB (kQ 8 (zg 5) ((vR ((zm zF (zg 8) (zg 5))).er (zg 6))).fe)
  (zB (kQ 8 ((vR ((zi _)).fr (zg 5))).fr ((yq rB (zP ((zm good_add ((zm zF (zg 8) ((vR ((zi _)).fr (zg 5))).fr)).er (zg 7))).fr (zP ((zm zF ((zm zF (zg 0) ((zi _)).fr)).er ((vR ((zi _)).fr (zg 5))).fr)).er ye)))).fe)
  (qg 3 ((yq p8 (zP (zg 8) ye))).fe))))))
  (kP 3)))⟩
theorem Rh (F:Fy K mg "_law_held" iV):X0 P w K mg base:=
 y8 (k:=0) F iD rfl (λ _ _ _ _ _ _=>u9 λ _ _=>rfl) λ f cdv A outer s H E hr=>⟨_,
  (zA (vD PassesOwn.never rfl (wa (za 0 (pv 0))) (oz (n:=2) (vE (y7 2 iD.nd) (vE (y7 3 iD.nd) oy))) (zI (yM (wg.pt (ox (my (zE (za 1 (pv 1)) zh) (za 2 (pv 2))) (ou (my (zE (za 1 (pv 1)) zh) (za 3 (pv 3)))))) (zI (zV sj)) yL)))
  (zI (zV sj))),
  (zB (vF (tD (zw 0)) (kS (tE (xT 2) (tE (xT 3) kR))) (yO (o8 (yp (pb ((zm zF (zg 1) ((zi _)).fr)).er (zg 2)).fr) (yp (pb ((zm zF (zg 1) ((zi _)).fr)).er (zg 3)).fr)) (zX (sr _)) yN))
  (zX (sr _)))⟩
theorem SY (F:Fy K mg "_law_whole" iO):Xu P w K mg base:=
 y8 (k:=0) F VE rfl (λ _ _ _ _ _ _=>tT λ _=>rfl) λ f cdv A outer s H E hr=>⟨_,
  (zI (zV (o5 (bW T (za 0 (pv 0))) (o4 (bU (bX T (za 0 (pv 0)))))))),
  (zX (o9 ((qh (zg 0))).fr (aB ((qh (zg 0))).fr)))⟩
theorem Rq (F:Fy K mg "is_whole_within" hV) (dy:X8 P w K mg base):X7 P w K mg base:=
 y8 (k:=1) F VH rfl (λ _ _ _ _ _ _=>sO λ _ _ _=>rfl) λ f cdv A outer s H E hr=>⟨_,
  (zI (zV (o5 (ya dy (hr.mono (by decide)) (zf (za 0 (pv 0)) zr)) (o4 (TK gJ gJ fit_le fit_le xV.mo xV.mo (za 1 (pv 1)) (za 0 (pv 0)) (za 2 (pv 2))))))),
  (zX (o9 ((yb (zj (zw 0) zG))).fr (R3 Z5 Z5 (zg 1) (zg 0) (zg 2))))⟩
theorem Ru (F:Fy K mg "holds" kA) (n4:dU P w K mg base):X9 P w K mg base:=
 y8 (k:=1) F VJ rfl (λ _ _ _ _ _ _=>u9 λ _ _=>rfl) λ f cdv A outer s H E hr=>⟨_,
  (zI (zV (TQ T.any (zf (t9 (N':=["own","pair"]) (pick:=[none,some 1]) (vz (N:=["border","pair"]) (esc:=zL kA)) rfl (wa (za 0 (pv 0))) (λ _ _ _ _ _=>(y7 0 (by decide +kernel:List.Nodup (α:=Str) ["own","pair"]))) (λ _ _ _ _ _=>t7) (λ _ _ _ _ _=>(ya n4 (hr.mono (by decide)) (zf (za 1 (pv 1)) (zf (za 0 (pv 0)) zr))))) zr)))),
  (zX (yq ji (zP ((vv (tB (zg 0)) (va 0) tF ((yb (zj (zw 1) (zj (zw 0) zG)))).fe)).fr ye)))⟩
theorem R4 (F:Fy K mg "both" ma) (tu:lT P w K mg base):XE P w K mg base:=
 y8 (k:=1) F qT rfl (λ _ _ _ _ _ _=>u9 λ _ _=>rfl) λ f cdv A outer s H E hr=>⟨_,
  (zA (zO 2 qT.nd (wb (t9 (N':=["pair"]) (pick:=[none]) (vz (N:=["border","other","steps","lows","shared","first","side","second"]) (esc:=zL ma)) rfl (wa (za 0 (pv 0))) (λ _ _ _ _ _=>(y7 0 (by decide +kernel:List.Nodup (α:=Str) ["pair"]))) (λ _ _ _ _ _=>t7) (λ _ _ _ _ _=>(xh (zf (zE (za 0 (pv 0)) zh) (zf zh (zf (zE (za 0 (pv 0)) zh) zr)))))) (t9 (N':=["pair"]) (pick:=[none]) (vz (N:=["border","other","steps","lows","shared","first","side","second"]) (esc:=zL ma)) rfl (wa (za 1 (pv 1))) (λ _ _ _ _ _=>(y7 0 (by decide +kernel:List.Nodup (α:=Str) ["pair"]))) (λ _ _ _ _ _=>t7) (λ _ _ _ _ _=>(xh (zf (zE (za 0 (pv 0)) zh) (zf zh (zf (zE (za 0 (pv 0)) zh) zr))))))))
  (zA (zO 3 qT.nd TH)
  (zA (zO 4 qT.nd (w_ zr))
  (zA (vD PassesOwn.never rfl (wa (bR T.sorted (zf (za 2 (pv 2)) zr))) (oz (n:=3) (vE (y7 5 qT.nd) (vE (y7 6 qT.nd) (vE (y7 7 qT.nd) oy)))) (zA (Tw hr (za 3 (pv 3)) (za 6 (pv 6)) (rn T.min (zf (za 7 (pv 7)) (zf (TJ hr (za 3 (pv 3)) (za 6 (pv 6)) (za 7 (pv 7))) zr))))
  (zI (yM (wZ hr (TF T.len (zf (za 3 (pv 3)) zr)) zh) (zI (t6 (qf (za 4 (pv 4)) (xh (zf (za 5 (pv 5)) (zf (kI T.max (zf (ae hr (za 3 (pv 3)) zh) (zf (ae hr (za 3 (pv 3)) zh) zr))) zr)))))) yL))))
  (zI (zV (ya tu (hr.mono (by decide)) (zf (za 4 (pv 4)) zr)))))))),
  (zB (zY 2 ((zm good_add ((vv (tB (zg 0)) (va 0) tF ((xj (zj (zm zF (zg 0) ((zi _)).fr) (zj ((zi _)).fe (zj (zm zF (zg 0) ((zi _)).fr) zG))))).fe)).fr ((vv (tB (zg 1)) (va 0) tF ((xj (zj (zm zF (zg 0) ((zi _)).fr) (zj ((zi _)).fe (zj (zm zF (zg 0) ((zi _)).fr) zG))))).fe)).fr)).fe)
  (zB (SD 3)
  (zB (uL 4 (vb zG))
  (zB (vF (tD ((yq Z4 (zP (zg 2) ye))).fe) (kS (tE (xT 5) (tE (xT 6) (tE (xT 7) kR)))) (zB (SA 3 (zg 6) ((yq rB (zP (zg 7) (zP ((Rx 3 (zg 6) (zw 7))).er ye)))).fe)
  (yO (yp (zm xD ((Rw 3)).fr ((zi _)).fr).fr) (qg 4 ((xj (zj (zw 5) (zj ((yq jh (zP ((aC 3 ((zi _)).fr)).er (zP ((aC 3 ((zi _)).fr)).er ye)))).fe zG)))).fe) yN)))
  (au 4 (zX (yb (zj (zw 4) zG))))))))⟩
theorem Rv (F:Fy K mg "either" hZ) (tu:lT P w K mg base):XA P w K mg base:=
 y8 (k:=1) F VL rfl (λ _ _ _ _ _ _=>u9 λ _ _=>rfl) λ f cdv A outer s H E hr=>⟨_,
  (zI (zV (ya tu (hr.mono (by decide)) (zf (wb (m6 T.list (zf (za 0 (pv 0)) zr)) (m6 T.list (zf (za 1 (pv 1)) zr))) zr)))),
  (zX (yb (zj ((zm good_add ((yq mR (zP (zg 0) ye))).fr ((yq mR (zP (zg 1) ye))).fr)).fe zG)))⟩
theorem R8 (F:Fy K mg "border_ahead_of_way" md) (tu:lT P w K mg base) (n4:dU P w K mg base):XH P w K mg base:=
 y8 (k:=1) F bc rfl (λ _ _ _ _ _ _=>sO λ _ _ _=>rfl) λ f cdv A outer s H E hr=>⟨_,
  (zA (mz (i:=3) (N':=["pair","way"]) (pick:=[none,some 1]) (vz (N:=["brims","way","border","pairs"]) (esc:=zL md)) rfl (wa (za 2 (pv 2))) (λ _ _ _ _ _=>(y7 0 (by decide +kernel:List.Nodup (α:=Str) ["pair","way"]))) (λ _ _ _ _ _=>t7) (λ _ _ _ _ _=>(xh (zf (kI T.max (zf zh (zf (vO (zE (za 0 (pv 0)) zh) (zE (za 1 (pv 1)) zh)) zr))) (zf (kI T.max (zf zh (zf (vO (zE (za 0 (pv 0)) zh) (zE (za 1 (pv 1)) zh)) zr))) zr)))) bc.nd rfl (by first | exact Or.inl rfl | exact Or.inr rfl))
  (zI (zV (ya tu (hr.mono (by decide)) (zf (t9 (N':=["pair","brims"]) (pick:=[none,some 0]) (vz (N:=["brims","way","border","pairs"]) (esc:=zL md)) rfl (wa (za 3 (pv 3))) (λ _ _ _ _ _=>(y7 0 (by decide +kernel:List.Nodup (α:=Str) ["pair","brims"]))) (λ _ _ _ _ _=>m4 (vN (ya n4 (hr.mono (by decide)) (zf (za 1 (pv 1)) (zf (za 0 (pv 0)) zr))))) (λ _ _ _ _ _=>(za 0 (pv 0)))) zr))))),
  (zB (zY 3 ((vv (tB (zg 2)) (va 0) tF ((xj (zj ((yq jh (zP ((zi _)).fr (zP ((vR ((zm zF (zg 0) ((zi _)).fr)).er ((zm zF (zg 1) ((zi _)).fr)).er)).fr ye)))).fe (zj ((yq jh (zP ((zi _)).fr (zP ((vR ((zm zF (zg 0) ((zi _)).fr)).er ((zm zF (zg 1) ((zi _)).fr)).er)).fr ye)))).fe zG)))).fe)).fe)
  (zX (yb (zj ((vv (tB (zg 3)) (va 0) (vQ ((yb (zj (zw 1) (zj (zw 0) zG)))).fr) (zw 0))).fe zG))))⟩
theorem Rn (F:Fy K mg "_law_brims" i_) (v9:nS P w K mg base):X5 P w K mg base:=
 y8 (k:=1) F iE rfl (λ _ _ _ _ _ _=>u9 λ _ _=>rfl) λ f cdv A outer s H E hr=>⟨_,
  (zA (zO 2 iE.nd (ya v9 (hr.mono (by decide)) (zf (za 0 (pv 0)) (zf zh zr))))
  (zA (zO 3 iE.nd (w_ (zf (zE (w_ (zf zh (zf zh (zf zh (zf zh (zf zh (zf zh (zf zh (zf zh zr))))))))) (xc (za 2 (pv 2)) zh)) (zf (zE (w_ (zf zh (zf zh (zf zh (zf zh (zf zh (zf zh (zf zh (zf zh zr))))))))) (xc (wJ (za 2 (pv 2)) zh) zh)) zr))))
  (zA (yM (gF (za 1 (pv 1)) zh) (zI (zV (xh (zf (rn T.min (zf (zE (za 3 (pv 3)) zh) (zf zh zr))) (zf (rn T.min (zf (zE (za 3 (pv 3)) zh) (zf zh zr))) zr))))) yL)
  (zA (yM (wZ hr (xc (wJ (za 2 (pv 2)) zh) zh) zh) (zI (zV (xh (zf zh (zf (xc (zE (za 3 (pv 3)) zh) zh) zr))))) yL)
  (zA (yM (wZ hr (xc (wJ (za 2 (pv 2)) zh) zh) zh) (zI (zV (xh (zf (xc (zE (za 3 (pv 3)) zh) zh) (zf zh zr))))) yL)
  (zA (yM (wg.pt (ox (wZ hr (xc (wJ (za 2 (pv 2)) zh) zh) zh) (ou (t5 hr (za 1 (pv 1)) zh)))) (zI (zV (xh (zf zh (zf zh zr))))) yL)
  (zI (zV (qX T.tuple (zf (za 3 (pv 3)) zr)))))))))),
  (zB (zY 2 ((yb (zj (zw 0) (zj ((zi _)).fe zG)))).fe)
  (zB (zY 3 ((vb (zj (zm zF ((vb (zj ((zi _)).fe (zj ((zi _)).fe (zj ((zi _)).fe (zj ((zi _)).fe (zj ((zi _)).fe (zj ((zi _)).fe (zj ((zi _)).fe (zj ((zi _)).fe zG)))))))))).fr ((xf (zg 2) ((zi _)).fr)).fr) (zj (zm zF ((vb (zj ((zi _)).fe (zj ((zi _)).fe (zj ((zi _)).fe (zj ((zi _)).fe (zj ((zi _)).fe (zj ((zi _)).fe (zj ((zi _)).fe (zj ((zi _)).fe zG)))))))))).fr ((xf ((wK (zg 2) ((zi _)).fr)).fr ((zi _)).fr)).fr) zG)))).fe)
  (zB (yO (yp (gL (zg 1) ((zi _)).fr).fr) (zX (xj (zj ((yq rB (zP ((zm zF (zg 3) ((zi _)).fr)).er (zP ((zi _)).fr ye)))).fe (zj ((yq rB (zP ((zm zF (zg 3) ((zi _)).fr)).er (zP ((zi _)).fr ye)))).fe zG)))) yN)
  (zB (yO (yp (zm xD ((xf ((wK (zg 2) ((zi _)).fr)).fr ((zi _)).fr)).fr ((zi _)).fr).fr) (zX (xj (zj ((zi _)).fe (zj ((xf ((zm zF (zg 3) ((zi _)).fr)).er ((zi _)).fr)).fe zG)))) yN)
  (zB (yO (yp (zm xD ((xf ((wK (zg 2) ((zi _)).fr)).fr ((zi _)).fr)).fr ((zi _)).fr).fr) (zX (xj (zj ((xf ((zm zF (zg 3) ((zi _)).fr)).er ((zi _)).fr)).fe (zj ((zi _)).fe zG)))) yN)
  (zB (yO (o8 (yp (zm xD ((xf ((wK (zg 2) ((zi _)).fr)).fr ((zi _)).fr)).fr ((zi _)).fr).fr) (yp (zm uP (zg 1) ((zi _)).fr).fr)) (zX (xj (zj ((zi _)).fe (zj ((zi _)).fe zG)))) yN)
  (zX (yq p8 (zP (zg 3) ye)))))))))⟩
theorem Rf (F:Fy K mg "_law_owners" iT) (v9:nS P w K mg base):Xz P w K mg base:=
 y8 (k:=1) F nY rfl (λ _ _ _ _ _ _=>u9 λ _ _=>rfl) λ f cdv A outer s H E hr=>⟨_,
  (zA (zO 2 nY.nd (ya v9 (hr.mono (by decide)) (zf (za 0 (pv 0)) (zf zh zr))))
  (zA (zO 3 nY.nd (w_ zr))
  (zA (vD PassesOwn.never rfl (qW T.range (zf (za 1 (pv 1)) zr)) (y7 4 nY.nd) (zA (t6 (qf (za 3 (pv 3)) (zE (w_ (zf kH (zf kH zr))) (xc (za 2 (pv 2)) zh))))
  (zI (zO 2 nY.nd (wJ (za 2 (pv 2)) zh)))))
  (zI (zV (qX T.tuple (zf (za 3 (pv 3)) zr))))))),
  (zB (zY 2 ((yb (zj (zw 0) (zj ((zi _)).fe zG)))).fe)
  (zB (uL 3 (vb zG))
  (zB (vF (q_ (b:=true) (zP (zg 1) ye)) (xT 4) (zB (qg 3 (zm zF ((vb (zj ((o7 _)).fe (zj ((o7 _)).fe zG)))).fr ((xf (zg 2) ((zi _)).fr)).fr))
  (zY 2 ((wK (zg 2) ((zi _)).fr)).fe)))
  (zX (yq p8 (zP (zg 3) ye))))))⟩
theorem S_ (F:Fy K mg "_law_ways" iP) (v9:nS P w K mg base) (jW:X3 P w K mg base):Xv P w K mg base:=
 y8 (k:=1) F uG rfl (λ _ _ _ _ _ _=>u9 λ _ _=>rfl) λ f cdv A outer s H E hr=>⟨_,
  (zA (zO 2 uG.nd (ya v9 (hr.mono (by decide)) (zf (za 0 (pv 0)) (zf zh zr))))
  (zA (zO 3 uG.nd (zE (w_ (zf zh (zf zh zr))) (T9 T.int (zf (T6 hr (za 1 (pv 1)) zh) zr))))
  (zA (zO 4 uG.nd (w_ zr))
  (zA (vD PassesOwn.never rfl (qW T.range (zf (za 1 (pv 1)) zr)) (y7 5 uG.nd) (zA (zO 6 uG.nd (wb zh (xc (za 2 (pv 2)) zh)))
  (zA (yM (wg.pt (ox (t5 hr (za 1 (pv 1)) zh) (ou (wZ hr (xc (wJ (za 2 (pv 2)) zh) zh) zh)))) (zI (zO 6 uG.nd (wb zh (za 6 (pv 6))))) yL)
  (zA (vD PassesOwn.never rfl (qW T.range (zf (za 6 (pv 6)) zr)) (y7 7 uG.nd) (zA (zO 8 uG.nd (wb (qe (za 3 (pv 3)) (za 5 (pv 5))) (za 7 (pv 7))))
  (zA (zO 9 uG.nd (xc (wb (wb (qe (ya v9 (hr.mono (by decide)) (zf (za 0 (pv 0)) (zf (wb zh (za 8 (pv 8))) zr))) zh) (qe zh (za 8 (pv 8)))) zh) zh))
  (zA (zO 10 uG.nd (wJ (za 9 (pv 9)) zh))
  (zI (t6 (qf (za 4 (pv 4)) (xh (zf (za 5 (pv 5)) (zf (xc (xc (za 9 (pv 9)) zh) (za 1 (pv 1))) (zf (ya jW (hr.mono (by decide)) (zf (za 10 (pv 10)) zr)) (zf (ya jW (hr.mono (by decide)) (zf (wJ (za 10 (pv 10)) zh) zr)) zr))))))))))))
  (zI (zO 2 uG.nd (wJ (za 2 (pv 2)) zh)))))))
  (zI (zV (qX T.tuple (zf (bQ hr T.sorted U.set (zf (za 4 (pv 4)) zr)) zr)))))))),
  (zB (zY 2 ((yb (zj (zw 0) (zj ((zi _)).fe zG)))).fe)
  (zB (zY 3 (zm zF ((vb (zj ((zi _)).fe (zj ((zi _)).fe zG)))).fr ((yq good_int (zP ((zm uP (zg 1) ((zi _)).fr)).fr ye))).fr))
  (zB (uL 4 (vb zG))
  (zB (vF (q_ (b:=true) (zP (zg 1) ye)) (xT 5) (zB (zY 6 ((zm good_add ((zi _)).fr ((xf (zg 2) ((zi _)).fr)).fr)).fe)
  (zB (yO (o8 (yp (zm uP (zg 1) ((zi _)).fr).fr) (yp (zm xD ((xf ((wK (zg 2) ((zi _)).fr)).fr ((zi _)).fr)).fr ((zi _)).fr).fr)) (zY 6 ((zm good_add ((zi _)).fr (zg 6))).fe) yN)
  (zB (vF (q_ (b:=true) (zP (zg 6) ye)) (xT 7) (zB (zY 8 ((zm good_add ((zm qq (zg 3) (zg 5))).fr (zg 7))).fe)
  (zB (zY 9 ((xf ((zm good_add ((zm good_add ((zm qq ((yb (zj (zw 0) (zj ((zm good_add ((zi _)).fr (zg 8))).fe zG)))).fr ((zi _)).fr)).fr ((zm qq ((zi _)).fr (zg 8))).fr)).fr ((zi _)).fr)).fr ((zi _)).fr)).fe)
  (zB (zY 10 ((wK (zg 9) ((zi _)).fr)).fe)
  (qg 4 ((xj (zj (zw 5) (zj ((xf ((xf (zg 9) ((zi _)).fr)).fr (zg 1))).fe (zj ((yb (zj (zw 10) zG))).fe (zj ((yb (zj ((wK (zg 10) ((zi _)).fr)).fe zG))).fe zG)))))).fe)))))
  (zY 2 ((wK (zg 2) ((zi _)).fr)).fe)))))
  (zX (yq p8 (zP ((yq Z2 (zP (zg 4) ye))).fr ye)))))))⟩
theorem Ra (F:Fy K mg "_law_stalls" iQ) (v9:nS P w K mg base):Xw P w K mg base:=
 y8 (k:=1) F qQ rfl (λ _ _ _ _ _ _=>u9 λ _ _=>rfl) λ f cdv A outer s H E hr=>⟨_,
  (zA (zO 2 qQ.nd (w_ zr))
  (zA (vD PassesOwn.never rfl (qW T.range (zf (vP T.len (zf (za 1 (pv 1)) zr)) zr)) (y7 3 qQ.nd) (zA (zO 4 qQ.nd (xc (wb (wb (qe (ya v9 (hr.mono (by decide)) (zf (za 0 (pv 0)) (zf (wb zh (za 3 (pv 3))) zr))) zh) (qe zh (za 3 (pv 3)))) zh) zh))
  (zI (yM (wg.pt (ox (wZ hr (zE (za 1 (pv 1)) (za 3 (pv 3))) kH) (ou (wZ hr (xc (za 4 (pv 4)) zh) zh)))) (zA (zO 5 qQ.nd (wJ (za 4 (pv 4)) zh))
  (zA (zO 6 qQ.nd (wb zh (zE (w_ (zf (xc (za 5 (pv 5)) zh) (zf (xc (za 5 (pv 5)) zh) (zf (xc (za 5 (pv 5)) zh) zr)))) (xc (wJ (za 5 (pv 5)) zh) zh))))
  (zA (zO 7 qQ.nd (zE (w_ (zf (xc (wJ (za 5 (pv 5)) zh) zh) (zf (xc (wJ (za 5 (pv 5)) zh) zh) (zf (xc (wJ (za 5 (pv 5)) zh) zh) zr)))) (xc (wJ (za 5 (pv 5)) zh) zh)))
  (zI (t6 (qf (za 2 (pv 2)) (xh (zf (za 3 (pv 3)) (zf (xc (wJ (za 4 (pv 4)) zh) zh) (zf (za 6 (pv 6)) (zf (za 7 (pv 7)) zr))))))))))) yL))))
  (zI (zV (qX T.tuple (zf (za 2 (pv 2)) zr)))))),
  (zB (uL 2 (vb zG))
  (zB (vF (q_ (b:=true) (zP ((yq vU (zP (zg 1) ye))).fr ye)) (xT 3) (zB (zY 4 ((xf ((zm good_add ((zm good_add ((zm qq ((yb (zj (zw 0) (zj ((zm good_add ((zi _)).fr (zg 3))).fe zG)))).fr ((zi _)).fr)).fr ((zm qq ((zi _)).fr (zg 3))).fr)).fr ((zi _)).fr)).fr ((zi _)).fr)).fe)
  (yO (o8 (yp (zm xD ((zm zF (zg 1) (zg 3))).er ((o7 _)).fr).fr) (yp (zm xD ((xf (zg 4) ((zi _)).fr)).fr ((zi _)).fr).fr)) (zB (zY 5 ((wK (zg 4) ((zi _)).fr)).fe)
  (zB (zY 6 ((zm good_add ((zi _)).fr ((zm zF ((vb (zj ((xf (zg 5) ((zi _)).fr)).fe (zj ((xf (zg 5) ((zi _)).fr)).fe (zj ((xf (zg 5) ((zi _)).fr)).fe zG))))).fr ((xf ((wK (zg 5) ((zi _)).fr)).fr ((zi _)).fr)).fr)).er)).fe)
  (zB (zY 7 (zm zF ((vb (zj ((xf ((wK (zg 5) ((zi _)).fr)).fr ((zi _)).fr)).fe (zj ((xf ((wK (zg 5) ((zi _)).fr)).fr ((zi _)).fr)).fe (zj ((xf ((wK (zg 5) ((zi _)).fr)).fr ((zi _)).fr)).fe zG))))).fr ((xf ((wK (zg 5) ((zi _)).fr)).fr ((zi _)).fr)).fr))
  (qg 2 ((xj (zj (zw 3) (zj ((xf ((wK (zg 4) ((zi _)).fr)).fr ((zi _)).fr)).fe (zj (zw 6) (zj (zw 7) zG)))))).fe)))) yN)))
  (zX (yq p8 (zP (zg 2) ye)))))⟩
theorem Rg (F:Fy K mg "_law_leads" iU) (dv:X6 P w K mg base) (dm:X0 P w K mg base):dQ P w K mg base:=
 y8 (k:=1) F c_ rfl (λ _ _ _ _ _ _=>ng λ _ _ _ _=>rfl) λ f cdv A outer s H E hr=>⟨_,
  (zA (zO 4 c_.nd (ya dv (hr.mono (by decide)) (zf (za 0 (pv 0)) (zf (za 2 (pv 2)) (zf (za 3 (pv 3)) zr)))))
  (zI (zV (o5 (bV (za 4 (pv 4)) t8) (o4 (ya dm (hr.mono (by decide)) (zf (zE (za 1 (pv 1)) (zE (za 3 (pv 3)) zh)) (zf (za 4 (pv 4)) zr)))))))),
  (zB (zY 4 ((yb (zj (zw 0) (zj (zw 2) (zj (zw 3) zG))))).fe)
  (zX (o9 ((zm mS (zg 4) (tG).fr)).fr (yb (zj (zm zF (zg 1) ((zm zF (zg 3) ((zi _)).fr)).er) (zj (zw 4) zG))))))⟩
theorem Rz (F:Fy K mg "check_place" gf) (dw:X7 P w K mg base) (sU:ia P w K mg base):dR P w K mg base:=
 y8 (k:=2) F VM rfl (λ _ _ _ _ _ _=>u9 λ _ _=>rfl) λ f cdv A outer s H E hr=>⟨_,
  (zI (yM (se (vN (ya dw (hr.mono (by decide)) (zf (za 1 (pv 1)) (zf zh (zf (vO (ya sU (hr.mono (by decide)) (zf (za 0 (pv 0)) zr)) zh) zr)))))) (zI Tv) yL)),
  (yO (sk (vQ ((yb (zj (zw 1) (zj ((zi _)).fe (zj ((vR ((yb (zj (zw 0) zG))).fr ((zi _)).fr)).fe zG))))).fr)) S8 yN)⟩
theorem R6 (F:Fy K mg "border_of_either" gk) (d9:XA P w K mg base):XF P w K mg base:=
 y8 (k:=2) F ku rfl (λ _ _ _ _ _ _=>tT λ _=>rfl) λ f cdv A outer s H E hr=>⟨_,
  (zA (zO 1 ku.nd (xh zr))
  (zA (vD PassesOwn.never rfl (wa (za 0 (pv 0))) (y7 2 ku.nd) (zI (zO 1 ku.nd (ya d9 (hr.mono (by decide)) (zf (za 1 (pv 1)) (zf (za 2 (pv 2)) zr))))))
  (zI (zV (za 1 (pv 1)))))),
  (zB (zY 1 ((xj zG)).fe)
  (zB (vF (tD (zw 0)) (xT 2) (zY 1 ((yb (zj (zw 1) (zj (zw 2) zG)))).fe))
  (zX (zw 1))))⟩
theorem R7 (F:Fy K mg "border_of_all" gm) (dE:XE P w K mg base):XG P w K mg base:=
 y8 (k:=2) F kx rfl (λ _ _ _ _ _ _=>tT λ _=>rfl) λ f cdv A outer s H E hr=>⟨_,
  (zA (zO 1 kx.nd (xh (zf (xh (zf zh (zf zh zr))) zr)))
  (zA (vD PassesOwn.never rfl (wa (za 0 (pv 0))) (y7 2 kx.nd) (zI (zO 1 kx.nd (ya dE (hr.mono (by decide)) (zf (za 1 (pv 1)) (zf (za 2 (pv 2)) zr))))))
  (zI (zV (za 1 (pv 1)))))),
  (zB (zY 1 ((xj (zj ((xj (zj ((zi _)).fe (zj ((zi _)).fe zG)))).fe zG))).fe)
  (zB (vF (tD (zw 0)) (xT 2) (zY 1 ((yb (zj (zw 1) (zj (zw 2) zG)))).fe))
  (zX (zw 1))))⟩
theorem SW (F:Fy K mg "leads_into" iM) (eW:Xn P w K mg base) (d7:X9 P w K mg base):Xt P w K mg base:=
 y8 (k:=2) F cZ rfl (λ _ _ _ _ _ _=>ng λ _ _ _ _=>rfl) λ f cdv A outer s H E hr=>⟨_,
  (zA (zO 4 cZ.nd (ya eW (hr.mono (by decide)) (zf (za 0 (pv 0)) (zf (za 1 (pv 1)) (zf (za 2 (pv 2)) zr)))))
  (zI (zV (o5 (bV (za 4 (pv 4)) t8) (o4 (ya d7 (hr.mono (by decide)) (zf (zE (za 3 (pv 3)) (zE (zE (zE (za 0 (pv 0)) zh) (za 2 (pv 2))) zh)) (zf (za 4 (pv 4)) zr)))))))),
  (zB (zY 4 ((yb (zj (zw 0) (zj (zw 1) (zj (zw 2) zG))))).fe)
  (zX (o9 ((zm mS (zg 4) (tG).fr)).fr (yb (zj (zm zF (zg 3) ((zm zF ((zm zF ((zm zF (zg 0) ((zi _)).fr)).er (zg 2))).er ((zi _)).fr)).er) (zj (zw 4) zG))))))⟩
theorem Ri (F:Fy K mg "_law_floor" iW) (v9:nS P w K mg base) (dk:Xz P w K mg base) (du:X5 P w K mg base) (df:Xv P w K mg base) (dg:Xw P w K mg base):X2 P w K mg base:=
 y8 (k:=2) F qb rfl (λ _ _ _ _ _ _=>tT λ _=>rfl) λ f cdv A outer s H E hr=>⟨_,
  (zA (zO 1 qb.nd (ya v9 (hr.mono (by decide)) (zf (za 0 (pv 0)) (zf zh zr))))
  (zA (zO 2 qb.nd (zE (w_ (zf zh (zf zh (zf zh (zf zh (zf zh (zf zh (zf zh (zf (wb zh (xc (wJ (za 1 (pv 1)) zh) zh)) zr))))))))) (xc (za 1 (pv 1)) zh)))
  (zA (zO 3 qb.nd (ya dk (hr.mono (by decide)) (zf (za 0 (pv 0)) (zf (za 2 (pv 2)) zr))))
  (zA (zO 4 qb.nd (ya du (hr.mono (by decide)) (zf (za 0 (pv 0)) (zf (za 2 (pv 2)) zr))))
  (zA (zO 5 qb.nd (ya df (hr.mono (by decide)) (zf (za 0 (pv 0)) (zf (za 2 (pv 2)) zr))))
  (zA (zO 6 qb.nd (ya dg (hr.mono (by decide)) (zf (za 0 (pv 0)) (zf (za 3 (pv 3)) zr))))
  (zA (yM (wg.pt (ox (wZ hr (za 4 (pv 4)) (xh (zf zh (zf zh zr)))) (ou (wg.pt (uo (gF (vP T.len (zf (za 5 (pv 5)) zr)) zh) (qd (gF (vP T.len (zf (za 6 (pv 6)) zr)) zh))))))) (zI (zO 4 qb.nd (xh (zf zh (zf zh zr))))) yL)
  (zI (zV (xh (zf (za 4 (pv 4)) (zf (za 3 (pv 3)) (zf (za 5 (pv 5)) (zf (za 6 (pv 6)) zr)))))))))))))),
  (zB (zY 1 ((yb (zj (zw 0) (zj ((zi _)).fe zG)))).fe)
  (zB (zY 2 (zm zF ((vb (zj ((zi _)).fe (zj ((zi _)).fe (zj ((zi _)).fe (zj ((zi _)).fe (zj ((zi _)).fe (zj ((zi _)).fe (zj ((zi _)).fe (zj ((zm good_add ((zi _)).fr ((xf ((wK (zg 1) ((zi _)).fr)).fr ((zi _)).fr)).fr)).fe zG)))))))))).fr ((xf (zg 1) ((zi _)).fr)).fr))
  (zB (zY 3 ((yb (zj (zw 0) (zj (zw 2) zG)))).fe)
  (zB (zY 4 ((yb (zj (zw 0) (zj (zw 2) zG)))).fe)
  (zB (zY 5 ((yb (zj (zw 0) (zj (zw 2) zG)))).fe)
  (zB (zY 6 ((yb (zj (zw 0) (zj (zw 3) zG)))).fe)
  (zB (yO (o8 (yp (zm xD (zg 4) ((xj (zj ((zi _)).fe (zj ((zi _)).fe zG)))).fr).fr) (uq (yp (gL ((yq vU (zP (zg 5) ye))).fr ((zi _)).fr).fr) (yp (gL ((yq vU (zP (zg 6) ye))).fr ((zi _)).fr).fr))) (zY 4 ((xj (zj ((zi _)).fe (zj ((zi _)).fe zG)))).fe) yN)
  (zX (xj (zj (zw 4) (zj (zw 3) (zj (zw 5) (zj (zw 6) zG)))))))))))))⟩
theorem Rb (F:Fy K mg "_law_row" iR) (dq:X4 P w K mg base) (nu:dQ P w K mg base) (jV:Xu P w K mg base):Xx P w K mg base:=
 y8 (k:=2) F ko rfl (λ _ _ _ _ _ _=>Nh λ _ _ _ _ _=>rfl) λ f cdv A outer s H E hr=>⟨_,
  (zA (yM (wg.pt (uo (se (vN (gG T (za 4 (pv 4))))) (uo (qV hr (vP T.len (zf (za 4 (pv 4)) zr)) zh) (uo (se (vN (gG T (zE (za 4 (pv 4)) zh)))) (qd (qV hr (zE (za 4 (pv 4)) zh) (za 3 (pv 3)))))))) (zI (zV sj)) yL)
  (zA (Tx (bS (za 4 (pv 4)) (bN zh) bO) (oz (n:=2) (vE (y7 5 ko.nd) (vE (y7 6 ko.nd) oy))))
  (zA (zO 7 ko.nd (ya dq (hr.mono (by decide)) (zf (za 0 (pv 0)) (zf (za 2 (pv 2)) (zf (za 3 (pv 3)) zr)))))
  (zA (yM (wg.pt (uo (se (vN (ya jV (hr.mono (by decide)) (zf (za 5 (pv 5)) zr)))) (uo (t5 hr (za 5 (pv 5)) zh) (qd (my (za 5 (pv 5)) (vP T.len (zf (za 7 (pv 7)) zr))))))) (zI (zV sj)) yL)
  (zA (yM (wg.pt (uo (se (vN (ya jV (hr.mono (by decide)) (zf (za 6 (pv 6)) zr)))) (uo (t5 hr (za 6 (pv 6)) zh) (uo (my (za 6 (pv 6)) (vP T.len (zf (zE (za 0 (pv 0)) zh) zr))) (qd (qV hr (zE (zE (zE (za 0 (pv 0)) zh) (za 6 (pv 6))) zh) (za 2 (pv 2)))))))) (zI (zV sj)) yL)
  (zI (zV (ya nu (hr.mono (by decide)) (zf (za 0 (pv 0)) (zf (za 1 (pv 1)) (zf (zE (za 7 (pv 7)) (za 5 (pv 5))) (zf (zE (zE (za 0 (pv 0)) zh) (za 6 (pv 6))) zr)))))))))))),
  (zB (yO (uq (sk (vQ ((qh (zg 4))).fr)) (uq (yp (zm xD ((yq vU (zP (zg 4) ye))).fr ((zi _)).fr).fr) (uq (sk (vQ ((qh ((zm zF (zg 4) ((zi _)).fr)).er)).fr)) (yp (zm xD ((zm zF (zg 4) ((zi _)).fr)).er (zg 3)).fr)))) (zX (sr _)) yN)
  (zB (S7 ((aA (zg 4) (az ((zi _)).fr) a9)).fe (kS (tE (xT 5) (tE (xT 6) kR))))
  (zB (zY 7 ((yb (zj (zw 0) (zj (zw 2) (zj (zw 3) zG))))).fe)
  (zB (yO (uq (sk (vQ ((yb (zj (zw 5) zG))).fr)) (uq (yp (zm uP (zg 5) ((zi _)).fr).fr) (yp (pb (zg 5) ((yq vU (zP (zg 7) ye))).fr).fr))) (zX (sr _)) yN)
  (zB (yO (uq (sk (vQ ((yb (zj (zw 6) zG))).fr)) (uq (yp (zm uP (zg 6) ((zi _)).fr).fr) (uq (yp (pb (zg 6) ((yq vU (zP ((zm zF (zg 0) ((zi _)).fr)).er ye))).fr).fr) (yp (zm xD ((zm zF ((zm zF ((zm zF (zg 0) ((zi _)).fr)).er (zg 6))).er ((zi _)).fr)).er (zg 2)).fr)))) (zX (sr _)) yN)
  (zX (yb (zj (zw 0) (zj (zw 1) (zj (zm zF (zg 7) (zg 5)) (zj (zm zF ((zm zF (zg 0) ((zi _)).fr)).er (zg 6)) zG)))))))))))⟩
theorem SE (F:Fy K mg "ways_from" kz) (nv:dR P w K mg base):dN P w K mg base:=
 y8 (k:=3) F VB rfl (λ _ _ _ _ _ _=>u9 λ _ _=>rfl) λ f cdv A outer s H E hr=>⟨_,
  (zA (t6 (ya nv (hr.mono (by decide)) (zf (za 0 (pv 0)) (zf (za 1 (pv 1)) zr))))
  (zI (zV (t9 (N':=["number","way","place"]) (pick:=[none,none,some 1]) (vz (N:=["floor","place"]) (esc:=zL kz)) rfl (bP U.enumerate (zf (zE (za 0 (pv 0)) zh) zr)) (λ _ _ _ _ _=>(oz (n:=2) (vE (y7 0 (by decide +kernel:List.Nodup (α:=Str) ["number","way","place"])) (vE (y7 1 (by decide +kernel:List.Nodup (α:=Str) ["number","way","place"])) oy)))) (λ _ _ _ _ _=>m4 (wZ hr (zE (za 1 (pv 1)) zh) (za 2 (pv 2)))) (λ _ _ _ _ _=>(za 0 (pv 0))))))),
  (zB (av ((yb (zj (zw 0) (zj (zw 1) zG)))).fr)
  (zX (vv (aw (zP ((zm zF (zg 0) ((zi _)).fr)).er ye)) (ay (kT (va 0) (kT (va 1) ax))) (yp (zm xD ((zm zF (zg 1) ((zi _)).fr)).er (zg 2)).fr) (zw 0))))⟩
theorem SH (F:Fy K mg "stall_at" iI) (nv:dR P w K mg base):dP P w K mg base:=
 y8 (k:=3) F cY rfl (λ _ _ _ _ _ _=>u9 λ _ _=>rfl) λ f cdv A outer s H E hr=>⟨_,
  (zA (t6 (ya nv (hr.mono (by decide)) (zf (za 0 (pv 0)) (zf (za 1 (pv 1)) zr))))
  (zA (vD PassesOwn.never rfl (wa (zE (za 0 (pv 0)) zh)) (y7 2 cY.nd) (zI (yM (wZ hr (zE (za 2 (pv 2)) zh) (za 1 (pv 1))) (zI (zV (za 2 (pv 2)))) yL)))
  (zI (zV t8)))),
  (zB (av ((yb (zj (zw 0) (zj (zw 1) zG)))).fr)
  (zB (vF (tD (zm zF (zg 0) ((zi _)).fr)) (xT 2) (yO (yp (zm xD ((zm zF (zg 2) ((zi _)).fr)).er (zg 1)).fr) (zX (zw 2)) yN))
  (zX (tG).fe)))⟩
theorem Rc (F:Fy K mg "_law_place" oe) (dh:Xx P w K mg base) (nu:dQ P w K mg base):Xy P w K mg base:=
 y8 (k:=3) F kq rfl (λ _ _ _ _ _ _=>ng λ _ _ _ _=>rfl) λ f cdv A outer s H E hr=>⟨_,
  (zA (zO 4 kq.nd (zE (za 1 (pv 1)) (za 2 (pv 2))))
  (zA (yM (se (vN (gG T (za 3 (pv 3))))) (zI (zV sj)) yL)
  (zA (yM (wZ hr (zE (zE (za 0 (pv 0)) zh) (za 2 (pv 2))) kH) (zA (mz (i:=5) (N':=["_law_way","_law_place_here"]) (pick:=[none,some 2]) (vz (N:=["_law_floor_here","_law_told","_law_place_here","_law_rows","_law_border","_law_ways_here","_law_pair"]) (esc:=zL oe)) rfl (wa (zE (za 0 (pv 0)) zh)) (λ _ _ _ _ _=>(y7 0 (by decide +kernel:List.Nodup (α:=Str) ["_law_way","_law_place_here"]))) (λ _ _ _ _ _=>m4 (wZ hr (zE (za 0 (pv 0)) zh) (za 1 (pv 1)))) (λ _ _ _ _ _=>(za 0 (pv 0))) kq.nd rfl (by first | exact Or.inl rfl | exact Or.inr rfl))
  (zA (vD PassesOwn.never rfl (wa (za 4 (pv 4))) (y7 6 kq.nd) (zI (yM (se (vN (gH T.all (zf (t9 (N':=["_law_way","_law_floor_here","_law_told","_law_pair"]) (pick:=[none,some 0,some 1,some 6]) (vz (N:=["_law_floor_here","_law_told","_law_place_here","_law_rows","_law_border","_law_ways_here","_law_pair"]) (esc:=zL oe)) rfl (wa (za 5 (pv 5))) (λ _ _ _ _ _=>(y7 0 (by decide +kernel:List.Nodup (α:=Str) ["_law_way","_law_floor_here","_law_told","_law_pair"]))) (λ _ _ _ _ _=>t7) (λ _ _ _ _ _=>(ya nu (hr.mono (by decide)) (zf (za 1 (pv 1)) (zf (za 2 (pv 2)) (zf (za 3 (pv 3)) (zf (za 0 (pv 0)) zr))))))) zr)))) (zI (zV sj)) yL)))
  (zI (zV (aa hr (za 3 (pv 3)) (xh zr)))))) yL)
  (zA (yM (qV hr (vP T.len (zf (za 3 (pv 3)) zr)) (vP T.len (zf (za 4 (pv 4)) zr))) (zI (zV sj)) yL)
  (zI (zV (gH T.all (zf (t9 (N':=["_law_k","_law_floor_here","_law_told","_law_place_here","_law_border","_law_rows"]) (pick:=[none,some 0,some 1,some 2,some 4,some 3]) (vz (N:=["_law_floor_here","_law_told","_law_place_here","_law_rows","_law_border","_law_ways_here","_law_pair"]) (esc:=zL oe)) rfl (qW T.range (zf (vP T.len (zf (za 4 (pv 4)) zr)) zr)) (λ _ _ _ _ _=>(y7 0 (by decide +kernel:List.Nodup (α:=Str) ["_law_k","_law_floor_here","_law_told","_law_place_here","_law_border","_law_rows"]))) (λ _ _ _ _ _=>t7) (λ _ _ _ _ _=>(ya dh (hr.mono (by decide)) (zf (za 1 (pv 1)) (zf (za 2 (pv 2)) (zf (za 3 (pv 3)) (zf (zE (za 4 (pv 4)) (za 0 (pv 0))) (zf (zE (za 5 (pv 5)) (za 0 (pv 0))) zr)))))))) zr)))))))),
  (zB (zY 4 (zm zF (zg 1) (zg 2)))
  (zB (yO (sk (vQ ((qh (zg 3))).fr)) (zX (sr _)) yN)
  (zB (yO (yp (zm xD ((zm zF ((zm zF (zg 0) ((zi _)).fr)).er (zg 2))).er ((o7 _)).fr).fr) (zB (zY 5 ((vv (tB ((zm zF (zg 0) ((zi _)).fr)).er) (va 0) (yp (zm xD ((zm zF (zg 0) ((zi _)).fr)).er (zg 1)).fr) (zw 0))).fe)
  (zB (vF (tD (zw 4)) (xT 6) (yO (sk (vQ ((yq ji (zP ((vv (tB (zg 5)) (va 0) tF ((yb (zj (zw 1) (zj (zw 2) (zj (zw 3) (zj (zw 0) zG)))))).fe)).fr ye))).fr)) (zX (sr _)) yN))
  (zX (zm xD (zg 3) ((xj zG)).fr)))) yN)
  (zB (yO (yp (zm xD ((yq vU (zP (zg 3) ye))).fr ((yq vU (zP (zg 4) ye))).fr).fr) (zX (sr _)) yN)
  (zX (yq ji (zP ((vv (q_ (b:=false) (zP ((yq vU (zP (zg 4) ye))).fr ye)) (va 0) tF ((yb (zj (zw 1) (zj (zw 2) (zj (zw 3) (zj (zm zF (zg 4) (zg 0)) (zj (zm zF (zg 5) (zg 0)) zG))))))).fe)).fr ye)))))))⟩
theorem R9 (F:Fy K mg "border_ahead_of_changes" gp) (nr:dP P w K mg base) (tu:lT P w K mg base) (eZ:Xq P w K mg base):XI P w K mg base:=
 y8 (k:=4) F ky rfl (λ _ _ _ _ _ _=>sO λ _ _ _=>rfl) λ f cdv A outer s H E hr=>⟨_,
  (zA (zO 3 ky.nd (ya nr (hr.mono (by decide)) (zf (za 0 (pv 0)) (zf (za 1 (pv 1)) zr))))
  (zA (yM (bM (za 3 (pv 3)) t8) (zI (zV (za 2 (pv 2)))) yL)
  (zA (zO 4 ky.nd (w_ zr))
  (zA (vD PassesOwn.never rfl (wa (za 2 (pv 2))) (y7 5 ky.nd) (zI (t6 (T5 (za 4 (pv 4)) (ya eZ (hr.mono (by decide)) (zf (zE (za 0 (pv 0)) zh) (zf (za 3 (pv 3)) (zf (za 5 (pv 5)) zr))))))))
  (zI (zV (ya tu (hr.mono (by decide)) (zf (za 4 (pv 4)) zr)))))))),
  (zB (zY 3 (yb (zj (zw 0) (zj (zw 1) zG))))
  (zB (yO (yp (zm mS (zg 3) (tG).fr).fr) (zX (zw 2)) yN)
  (zB (uL 4 (vb zG))
  (zB (vF (tD (zw 2)) (xT 5) (S9 4 (yb (zj (zm zF (zg 0) ((zi _)).fr) (zj (zw 3) (zj (zw 5) zG))))))
  (au 4 (zX ((yb (zj (zw 4) zG))).fe))))))⟩
theorem R1 (F:Fy K mg "change_at" gi) (nr:dP P w K mg base) (dB:XC P w K mg base):XD P w K mg base:=
 y8 (k:=4) F ba rfl (λ _ _ _ _ _ _=>ng λ _ _ _ _=>rfl) λ f cdv A outer s H E hr=>⟨_,
  (zA (yM (wZ hr (za 3 (pv 3)) zh) (zI (zV (xh (zf (zE (za 2 (pv 2)) zh) (zf (zE (za 2 (pv 2)) zh) zr))))) yL)
  (zA (zO 4 ba.nd (ya nr (hr.mono (by decide)) (zf (za 0 (pv 0)) (zf (za 1 (pv 1)) zr))))
  (zA (yM (bM (za 4 (pv 4)) t8) (zI (zV t8)) yL)
  (zI (zV (ya dB (hr.mono (by decide)) (zf (zE (za 0 (pv 0)) zh) (zf (za 4 (pv 4)) (zf (za 2 (pv 2)) (zf (za 3 (pv 3)) zr)))))))))),
  (zB (yO (yp (zm xD (zg 3) ((zi _)).fr).fr) (zX (xj (zj (zm zF (zg 2) ((zi _)).fr) (zj (zm zF (zg 2) ((zi _)).fr) zG)))) yN)
  (zB (zY 4 (yb (zj (zw 0) (zj (zw 1) zG))))
  (zB (yO (yp (zm mS (zg 4) (tG).fr).fr) (zX tG) yN)
  (zX (yb (zj (zm zF (zg 0) ((zi _)).fr) (zj (zw 4) (zj (zw 2) (zj (zw 3) zG)))))))))⟩
theorem SU {pW:Value}(F:Fy K mg "next_border" n_) (qt:mg "KEEPER"=some pW) (oj:L2.RelV (.str "keeper") pW) (dG:XG P w K mg base) (dH:XH P w K mg base) (dI:XI P w K mg base) (nq:dN P w K mg base) (dF:XF P w K mg base):Xs P w K mg base:=
 y8 (k:=5) F iB rfl (λ _ _ _ _ _ _=>sO λ _ _ _=>rfl) λ f cdv A outer s H E hr=>⟨_,
  (zA (mz (i:=3) (N':=["number","floor"]) (pick:=[none,some 0]) (vz (N:=["floor","place","last","ways","ahead"]) (esc:=zL n_)) rfl (wa (ya nq (hr.mono (by decide)) (zf (za 0 (pv 0)) (zf (za 1 (pv 1)) zr)))) (λ _ _ _ _ _=>(y7 0 (by decide +kernel:List.Nodup (α:=Str) ["number","floor"]))) (λ _ _ _ _ _=>t7) (λ _ _ _ _ _=>(zE (zE (za 1 (pv 1)) zh) (za 0 (pv 0)))) iB.nd rfl (by first | exact Or.inl rfl | exact Or.inr rfl))
  (zA (mz (i:=4) (N':=["way","floor","last"]) (pick:=[none,some 0,some 2]) (vz (N:=["floor","place","last","ways","ahead"]) (esc:=zL n_)) rfl (wa (za 3 (pv 3))) (λ _ _ _ _ _=>(y7 0 (by decide +kernel:List.Nodup (α:=Str) ["way","floor","last"]))) (λ _ _ _ _ _=>t7) (λ _ _ _ _ _=>(ya dH (hr.mono (by decide)) (zf (zE (za 1 (pv 1)) zh) (zf (za 0 (pv 0)) (zf (zE (za 2 (pv 2)) (zE (za 0 (pv 0)) zh)) zr))))) iB.nd rfl (by first | exact Or.inl rfl | exact Or.inr rfl))
  (zA (yM (wZ hr (zE (zE (za 0 (pv 0)) zh) (za 1 (pv 1))) (bZ qt oj)) (zI (zV (ya dI (hr.mono (by decide)) (zf (za 0 (pv 0)) (zf (za 1 (pv 1)) (zf (ya dF (hr.mono (by decide)) (zf (za 4 (pv 4)) zr)) zr)))))) yL)
  (zI (zV (ya dG (hr.mono (by decide)) (zf (za 4 (pv 4)) zr))))))),
  (zB (zY 3 ((vv (tB ((yb (zj (zw 0) (zj (zw 1) zG)))).fr) (va 0) tF (zm zF ((zm zF (zg 1) ((zi _)).fr)).er (zg 0)))).fe)
  (zB (zY 4 ((vv (tB (zg 3)) (va 0) tF ((yb (zj (zm zF (zg 1) ((zi _)).fr) (zj (zw 0) (zj (zm zF (zg 2) ((zm zF (zg 0) ((zi _)).fr)).er) zG))))).fe)).fe)
  (zB (yO (yp (zm xD ((zm zF ((zm zF (zg 0) ((zi _)).fr)).er (zg 1))).er ((o7 _)).fr).fr) (zX (yb (zj (zw 0) (zj (zw 1) (zj (yb (zj (zw 4) zG)) zG))))) yN)
  (zX (yb (zj (zw 4) zG))))))⟩
theorem Ry (F:Fy K mg "deed_into" h_) (nq:dN P w K mg base) (dD:XD P w K mg base) (de:Xt P w K mg base):XB P w K mg base:=
 y8 (k:=5) F qS rfl (λ _ _ _ _ _ _=>ng λ _ _ _ _=>rfl) λ f cdv A outer s H E hr=>⟨_,
  (zA (zO 4 qS.nd (ya nq (hr.mono (by decide)) (zf (za 0 (pv 0)) (zf (za 1 (pv 1)) zr))))
  (zA (zO 5 qS.nd zh)
  (zA (zO 6 qS.nd (za 2 (pv 2)))
  (zA (kF PassesOwn.never (Ts (za 6 (pv 6)) t8) (zA (vD PassesOwn.never rfl (wa (za 4 (pv 4))) (y7 7 qS.nd) (zI (yM (vN (ya de (hr.mono (by decide)) (zf (za 0 (pv 0)) (zf (za 6 (pv 6)) (zf (za 7 (pv 7)) (zf (za 3 (pv 3)) zr)))))) (zI (zV (xh (zf (za 5 (pv 5)) (zf (za 7 (pv 7)) zr))))) yL)))
  (zA (zO 5 qS.nd (wb (za 5 (pv 5)) zh))
  (zI (zO 6 qS.nd (ya dD (hr.mono (by decide)) (zf (za 0 (pv 0)) (zf (za 1 (pv 1)) (zf (za 2 (pv 2)) (zf (za 5 (pv 5)) zr))))))))))
  (zI (zV t8)))))),
  (zB (zY 4 ((yb (zj (zw 0) (zj (zw 1) zG)))).fe)
  (zB (zY 5 ((zi _)).fe)
  (zB (zY 6 (zw 2))
  (zB (kO (yp (zm mS (zg 6) (tG).fr).fr) (zB (vF (tD (zw 4)) (xT 7) (yO (vQ ((yb (zj (zw 0) (zj (zw 6) (zj (zw 7) (zj (zw 3) zG)))))).fr) (zX (xj (zj (zw 5) (zj (zw 7) zG)))) yN))
  (zB (zY 5 ((zm good_add (zg 5) ((zi _)).fr)).fe)
  (zY 6 ((yb (zj (zw 0) (zj (zw 1) (zj (zw 2) (zj (zw 5) zG)))))).fe))))
  (zX tG)))))⟩
theorem SR (F:Fy K mg "next_round" k8) (da:Xs P w K mg base):Xr P w K mg base:=
 y8 (k:=6) F i9 rfl (λ _ _ _ _ _ _=>sO λ _ _ _=>rfl) λ f cdv A outer s H E hr=>⟨_,
  (zA (zO 3 i9.nd (m6 T.list (zf (za 1 (pv 1)) zr)))
  (zA (vD PassesOwn.never rfl (wa (bQ hr T.sorted U.set (zf (t9 (N':=["way","fresh"]) (pick:=[none,some 2]) (vz (N:=["floor","last","fresh","following","place"]) (esc:=zL k8)) rfl (wa (zE (za 0 (pv 0)) zh)) (λ _ _ _ _ _=>(y7 0 (by decide +kernel:List.Nodup (α:=Str) ["way","fresh"]))) (λ _ _ _ _ _=>m4 (Tt hr (zE (za 0 (pv 0)) zh) (za 1 (pv 1)))) (λ _ _ _ _ _=>(zE (za 0 (pv 0)) zh))) zr))) (y7 4 i9.nd) (zI (kG (za 3 (pv 3)) (za 4 (pv 4)) (ya da (hr.mono (by decide)) (zf (za 0 (pv 0)) (zf (za 4 (pv 4)) (zf (za 1 (pv 1)) zr)))))))
  (zI (zV (za 3 (pv 3)))))),
  (zB (uL 3 (yq mR (zP (zg 1) ye)))
  (zB (vF (tD ((yq Z2 (zP ((vv (tB ((zm zF (zg 0) ((zi _)).fr)).er) (va 0) (yp (zm QW ((zm zF (zg 0) ((zi _)).fr)).er (zg 1)).fr) (zm zF (zg 0) ((zi _)).fr))).fr ye))).fe) (xT 4) (kQ 3 (zg 4) (yb (zj (zw 0) (zj (zw 4) (zj (zw 1) zG))))))
  (kP 3)))⟩
theorem SJ {pW:Value}(F:Fy K mg "rows_at" k6) (qt:mg "KEEPER"=some pW) (oj:L2.RelV (.str "keeper") pW) (dA:XB P w K mg base):Xo P w K mg base:=
 y8 (k:=6) F VC rfl (λ _ _ _ _ _ _=>sO λ _ _ _=>rfl) λ f cdv A outer s H E hr=>⟨_,
  (zA (yM (qV hr (zE (zE (za 0 (pv 0)) zh) (za 1 (pv 1))) (bZ qt oj)) (zI (zV (xh zr))) yL)
  (zI (zV (qX T.tuple (zf (t9 (N':=["pair","floor","place","held"]) (pick:=[none,some 0,some 1,some 2]) (vz (N:=["floor","place","held"]) (esc:=zL k6)) rfl (wa (zE (za 2 (pv 2)) (za 1 (pv 1)))) (λ _ _ _ _ _=>(y7 0 (by decide +kernel:List.Nodup (α:=Str) ["pair","floor","place","held"]))) (λ _ _ _ _ _=>t7) (λ _ _ _ _ _=>(wb (xh (zf (za 0 (pv 0)) zr)) (ya dA (hr.mono (by decide)) (zf (za 1 (pv 1)) (zf (za 2 (pv 2)) (zf (za 0 (pv 0)) (zf (za 3 (pv 3)) zr)))))))) zr))))),
  (zB (yO (yp (zm xD ((zm zF ((zm zF (zg 0) ((zi _)).fr)).er (zg 1))).er ((o7 _)).fr).fr) (zX (xj zG)) yN)
  (zX (yq p8 (zP ((vv (tB ((zm zF (zg 2) (zg 1))).er) (va 0) tF ((zm good_add ((xj (zj (zw 0) zG))).fr ((yb (zj (zw 1) (zj (zw 2) (zj (zw 0) (zj (zw 3) zG)))))).fr)).fe)).fr ye))))⟩
theorem SK (F:Fy K mg "rounds" k7) (e_:Xr P w K mg base) (sU:ia P w K mg base):Xp P w K mg base:=
 y8 (k:=7) F oa rfl (λ _ _ _ _ _ _=>tT λ _=>rfl) λ f cdv A outer s H E hr=>⟨_,
  (zA (zO 1 oa.nd (w_ (zf (qe (w_ (zf (xh (zf (xh (zf zh (zf zh zr))) zr)) zr)) (ya sU (hr.mono (by decide)) (zf (za 0 (pv 0)) zr))) zr)))
  (zA (zO 2 oa.nd (T7 T.list T.range (zf (ya sU (hr.mono (by decide)) (zf (za 0 (pv 0)) zr)) zr)))
  (zA (kF PassesOwn.never (vN (za 2 (pv 2))) (zA (zO 3 oa.nd (zE (za 1 (pv 1)) (m5 zh)))
  (zA (zO 4 oa.nd (ya e_ (hr.mono (by decide)) (zf (za 0 (pv 0)) (zf (za 3 (pv 3)) (zf (za 2 (pv 2)) zr)))))
  (zA (mz (i:=2) (N':=["place","border","last"]) (pick:=[none,none,some 3]) (vz (N:=["floor","told","fresh","last","following"]) (esc:=zL k7)) rfl (bP U.enumerate (zf (za 4 (pv 4)) zr)) (λ _ _ _ _ _=>(oz (n:=2) (vE (y7 0 (by decide +kernel:List.Nodup (α:=Str) ["place","border","last"])) (vE (y7 1 (by decide +kernel:List.Nodup (α:=Str) ["place","border","last"])) oy)))) (λ _ _ _ _ _=>m4 (qV hr (za 1 (pv 1)) (zE (za 2 (pv 2)) (za 0 (pv 0))))) (λ _ _ _ _ _=>(za 0 (pv 0))) oa.nd rfl (by first | exact Or.inl rfl | exact Or.inr rfl))
  (zI (yM (vN (za 2 (pv 2))) (zI (t6 (qf (za 1 (pv 1)) (za 4 (pv 4))))) yL))))))
  (zI (zV (za 1 (pv 1))))))),
  (zB (uL 1 (vb (zj ((zm qq ((vb (zj ((xj (zj ((xj (zj ((zi _)).fe (zj ((zi _)).fe zG)))).fe zG))).fe zG))).fr ((yb (zj (zw 0) zG))).fr)).fe zG)))
  (zB (zY 2 ((yq QV (zP ((yb (zj (zw 0) zG))).fr ye))).fe)
  (zB (kO (vQ (zg 2)) (zB (zY 3 (zm zF (zg 1) ((mC ((zi _)).fr)).fr))
  (zB (zY 4 ((yb (zj (zw 0) (zj (zw 3) (zj (zw 2) zG))))).fe)
  (zB (zY 2 ((vv (aw (zP (zg 4) ye)) (ay (kT (va 0) (kT (va 1) ax))) (yp (zm xD (zg 1) ((zm zF (zg 2) (zg 0))).er).fr) (zw 0))).fe)
  (yO (vQ (zg 2)) (qg 1 (zw 4)) yN)))))
  (kP 1))))⟩
theorem R5 (F:Fy K mg "borders" gj) (eY:Xp P w K mg base):dS P w K mg base:=
 y8 (k:=8) F VN rfl (λ _ _ _ _ _ _=>tT λ _=>rfl) λ f cdv A outer s H E hr=>⟨_,
  (zI (zV (zE (ya eY (hr.mono (by decide)) (zf (za 0 (pv 0)) zr)) (m5 zh)))),
  (zX (zm zF ((yb (zj (zw 0) zG))).fr ((mC ((zi _)).fr)).fr))⟩
theorem SF (F:Fy K mg "table" k5) (ny:dS P w K mg base) (eX:Xo P w K mg base) (sU:ia P w K mg base):Xm P w K mg base:=
 y8 (k:=9) F cX rfl (λ _ _ _ _ _ _=>tT λ _=>rfl) λ f cdv A outer s H E hr=>⟨_,
  (zA (zO 1 cX.nd (ya ny (hr.mono (by decide)) (zf (za 0 (pv 0)) zr)))
  (zI (zV (t9 (N':=["place","floor","held"]) (pick:=[none,some 0,some 1]) (vz (N:=["floor","held"]) (esc:=zL k5)) rfl (qW T.range (zf (ya sU (hr.mono (by decide)) (zf (za 0 (pv 0)) zr)) zr)) (λ _ _ _ _ _=>(y7 0 (by decide +kernel:List.Nodup (α:=Str) ["place","floor","held"]))) (λ _ _ _ _ _=>t7) (λ _ _ _ _ _=>(ya eX (hr.mono (by decide)) (zf (za 1 (pv 1)) (zf (za 0 (pv 0)) (zf (za 2 (pv 2)) zr))))))))),
  (zB (zY 1 (yb (zj (zw 0) zG)))
  (zX (vv (q_ (b:=false) (zP ((yb (zj (zw 0) zG))).fr ye)) (va 0) tF ((yb (zj (zw 1) (zj (zw 0) (zj (zw 2) zG))))).fe)))⟩
theorem Rp {f:Addr}{fd:FuncData}(F:tV K "law" "law" k9 f fd) (dn:X2 P w K mg base) (ny:dS P w K mg base) (jU:Xm P w K mg base) (di:Xy P w K mg base):tw P w K mg base uh 11 f fd ["_law_script"] (sZ K (yg zS nM)):=
 ZE (k:=10) F nZ rfl λ cdv A outer s H E hr=>⟨_,
  (zA (zO 1 nZ.nd (ya dn (hr.mono (by decide)) (zf (za 0 (pv 0)) zr)))
  (zA (zO 2 nZ.nd (ya ny (hr.mono (by decide)) (zf (za 1 (pv 1)) zr)))
  (zA (zO 3 nZ.nd (ya jU (hr.mono (by decide)) (zf (za 1 (pv 1)) zr)))
  (zA (yM (wg.pt (uo (se (vN (T8 T (za 3 (pv 3))))) (qd (qV hr (vP T.len (zf (za 3 (pv 3)) zr)) (vP T.len (zf (zE (za 1 (pv 1)) zh) zr)))))) (zI (zV sj)) yL)
  (zA (yM (se (vN (gH T.all (zf (t9 (N':=["_law_place_here","_law_floor_here","_law_told","_law_found"]) (pick:=[none,some 1,some 2,some 3]) (vz (N:=["_law_script","_law_floor_here","_law_told","_law_found","_law_kept"]) (esc:=zL k9)) rfl (qW T.range (zf (vP T.len (zf (za 3 (pv 3)) zr)) zr)) (λ _ _ _ _ _=>(y7 0 (by decide +kernel:List.Nodup (α:=Str) ["_law_place_here","_law_floor_here","_law_told","_law_found"]))) (λ _ _ _ _ _=>t7) (λ _ _ _ _ _=>(ya di (hr.mono (by decide)) (zf (za 1 (pv 1)) (zf (za 2 (pv 2)) (zf (za 0 (pv 0)) (zf (zE (za 3 (pv 3)) (za 0 (pv 0))) zr))))))) zr)))) (zI (zV sj)) yL)
  (zA (zO 4 nZ.nd (m6 T.list (zf (za 3 (pv 3)) zr)))
  (zA (kG (za 3 (pv 3)) zh (xh zr))
  (zI (zV (aa hr (ya jU (hr.mono (by decide)) (zf (za 1 (pv 1)) zr)) (za 4 (pv 4)))))))))))),
  (zB (zY 1 ((yb (zj (zw 0) zG))).fe)
  (zB (zY 2 (yb (zj (zw 1) zG)))
  (zB (uL 3 (yb (zj (zw 1) zG)))
  (zB (yO (uq (sk (vQ ((qh (zg 3))).fr)) (yp (zm xD ((yq vU (zP (zg 3) ye))).fr ((yq vU (zP ((zm zF (zg 1) ((zi _)).fr)).er ye))).fr).fr)) (zX (sr _)) yN)
  (zB (yO (sk (vQ ((yq ji (zP ((vv (q_ (b:=false) (zP ((yq vU (zP (zg 3) ye))).fr ye)) (va 0) tF ((yb (zj (zw 1) (zj (zw 2) (zj (zw 0) (zj (zm zF (zg 3) (zg 0)) zG)))))).fe)).fr ye))).fr)) (zX (sr _)) yN)
  (zB (zY 4 ((yq mR (zP (zg 3) ye))).fe)
  (zB (kQ 3 ((zi _)).fr ((xj zG)).fe)
  (zX (zm xD ((yb (zj (zw 1) zG))).fr (zg 4))))))))))⟩
end
theorem Ni {l:PySem.W.OpenLaw}{w:World}{K:PySem.W.Frag}{h:Heap}{mg:Str->Option Value}{fa:Addr}(X:K.In h) (G:h.Ns mainGlobals mg) (hfa:mg "law"=some (.ref fa))
  (h0:Fx K "is_whole" hX) (h1:Fx K "is_whole_within" hV) (h2:Fx K "places_of" iJ) (h3:Fx K "check_place" gf) (h4:Fx K "ways_from" kz) (h5:Fx K "stall_at" iI) (h6:Fx K "at_or_above" gq) (h7:Fx K "least_pairs" iL) (h8:Fx K "holds" kA) (h9:Fx K "both" ma) (h10:Fx K "either" hZ) (h11:Fx K "border_ahead_of_way" md) (h12:Fx K "pairs_ahead_of_changes" iK) (h13:Fx K "border_ahead_of_changes" gp) (h14:Fx K "border_of_either" gk) (h15:Fx K "border_of_all" gm) (h16:Fx K "next_border" n_) (h17:Fx K "next_round" k8) (h18:Fx K "rounds" k7) (h19:Fx K "step_by" iH) (h20:Fx K "change_by" gh) (h21:Fx K "change_at" gi) (h22:Fx K "borders" gj) (h23:Fx K "leads_into" iM) (h24:Fx K "deed_into" h_) (h25:Fx K "rows_at" k6) (h26:Fx K "table" k5) (h27:Fx K "_law_cell" iZ) (h28:Fx K "_law_coins" iX) (h29:Fx K "_law_brims" i_) (h30:Fx K "_law_owners" iT) (h31:Fx K "_law_ways" iP) (h32:Fx K "_law_stalls" iQ) (h33:Fx K "_law_floor" iW) (h34:Fx K "_law_behind" hJ) (h35:Fx K "_law_changes" iY) (h36:Fx K "_law_held" iV) (h37:Fx K "_law_whole" iO) (h38:Fx K "_law_leads" iU) (h39:Fx K "_law_row" iR) (h40:Fx K "_law_place" oe) (h41:Fx K "law" k9)
  (qt:Cn K "KEEPER" (.str "keeper"))
  (y0:PySem.W.nsIn K mainGlobals "set"=some none) (y1:PySem.W.nsIn K mainGlobals "zip"=some none) (y2:PySem.W.nsIn K mainGlobals "enumerate"=some none)
  (z0:PySem.W.nsIn K mainGlobals "len"=some none) (z1:PySem.W.nsIn K mainGlobals "range"=some none) (z2:PySem.W.nsIn K mainGlobals "any"=some none) (z3:PySem.W.nsIn K mainGlobals "all"=some none) (z4:PySem.W.nsIn K mainGlobals "sorted"=some none) (z5:PySem.W.nsIn K mainGlobals "isinstance"=some none) (z6:PySem.W.nsIn K mainGlobals "bool"=some none) (z7:PySem.W.nsIn K mainGlobals "int"=some none) (z8:PySem.W.nsIn K mainGlobals "str"=some none) (z9:PySem.W.nsIn K mainGlobals "list"=some none) (z10:PySem.W.nsIn K mainGlobals "tuple"=some none) (z11:PySem.W.nsIn K mainGlobals "max"=some none) (z12:PySem.W.nsIn K mainGlobals "min"=some none):
  ∃ fd:FuncData,(∀ (s:Shared) (v:Value),BindsTo s fd ⟨[v],[]⟩ [("_law_script",v)])/\∀ base:Heap,K.In base->base.Ns mainGlobals mg->tw l.prog w K mg base uh 11 fa fd ["_law_script"] (sZ K (yg zS nM)):=by
 have T:Bt mg:=⟨PySem.W.mg_none_of X G z0,PySem.W.mg_none_of X G z1,PySem.W.mg_none_of X G z2,PySem.W.mg_none_of X G z3,PySem.W.mg_none_of X G z4,PySem.W.mg_none_of X G z5,PySem.W.mg_none_of X G z6,PySem.W.mg_none_of X G z7,PySem.W.mg_none_of X G z8,PySem.W.mg_none_of X G z9,PySem.W.mg_none_of X G z10,PySem.W.mg_none_of X G z11,PySem.W.mg_none_of X G z12⟩
 have U:Bq mg:=⟨PySem.W.mg_none_of X G y0,PySem.W.mg_none_of X G y1,PySem.W.mg_none_of X G y2⟩
 obtain⟨pW,qt,oj⟩:=qt.mk X G;obtain⟨fd,Fl,hb⟩:=h41.law X G hfa λ _ _ _ _ _ _ _ _=>.of_eq rfl;refine⟨fd,hb,λ base _ _=>?_⟩;have dy:=Rr l.prog w base T U (h0.mk X G);have sU:=SN l.prog w base T U (h2.mk X G);have n4:=RA l.prog w base T U (h6.mk X G);have tu:=SV l.prog w base T U (h7.mk X G);have eZ:=SO l.prog w base T U (h12.mk X G);have eW:=SG l.prog w base T U (h19.mk X G);have dB:=R0 l.prog w base T U (h20.mk X G);have v9:=Rm l.prog w base T U (h27.mk X G);have jW:=Rj l.prog w base T U (h28.mk X G);have dv:=Ro l.prog w base T U (h34.mk X G);have dq:=Rl l.prog w base T U (h35.mk X G);have dm:=Rh l.prog w base T U (h36.mk X G);have jV:=SY l.prog w base T U (h37.mk X G);have dw:=Rq l.prog w base T U (h1.mk X G) dy;have d7:=Ru l.prog w base T U (h8.mk X G) n4;have dE:=R4 l.prog w base T U (h9.mk X G) tu;have d9:=Rv l.prog w base T U (h10.mk X G) tu;have dH:=R8 l.prog w base T U (h11.mk X G) tu n4;have du:=Rn l.prog w base T U (h29.mk X G) v9;have dk:=Rf l.prog w base T U (h30.mk X G) v9;have df:=S_ l.prog w base T U (h31.mk X G) v9 jW;have dg:=Ra l.prog w base T U (h32.mk X G) v9;have nu:=Rg l.prog w base T U (h38.mk X G) dv dm;have nv:=Rz l.prog w base T U (h3.mk X G) dw sU;have dF:=R6 l.prog w base T U (h14.mk X G) d9;have dG:=R7 l.prog w base T U (h15.mk X G) dE;have de:=SW l.prog w base T U (h23.mk X G) eW d7;have dn:=Ri l.prog w base T U (h33.mk X G) v9 dk du df dg;have dh:=Rb l.prog w base T U (h39.mk X G) dq nu jV;have nq:=SE l.prog w base T U (h4.mk X G) nv;have nr:=SH l.prog w base T U (h5.mk X G) nv;have di:=Rc l.prog w base T U (h40.mk X G) dh nu;have dI:=R9 l.prog w base T U (h13.mk X G) nr tu eZ;have dD:=R1 l.prog w base T U (h21.mk X G) nr dB;have da:=SU l.prog w base T U (h16.mk X G) qt oj dG dH dI nq dF;have dA:=Ry l.prog w base T U (h24.mk X G) nq dD de;have e_:=SR l.prog w base T U (h17.mk X G) da;have eX:=SJ l.prog w base T U (h25.mk X G) qt oj dA;have eY:=SK l.prog w base T U (h18.mk X G) e_ sU;have ny:=R5 l.prog w base T U (h22.mk X G) eY;have jU:=SF l.prog w base T U (h26.mk X G) ny eX sU;exact Rp l.prog w base T U Fl dn ny jU di
theorem W4 {l:PySem.W.OpenLaw}{q:Program}{loose:List Str}{XP:(Str->Option Value)->Heap->Prop}{YP:World->Heap->Prop}{d:DefRec}{K:Params->PySem.W.Frag}(hn:l.most=some 63) (hdf:d.params.defaults=[])
  (hY:∀ (w:World) (h:Heap),YP w h->(K w.params).In h)
  (F:∀ (w:World) (mg:Str->Option Value) (fa:Addr) (h:Heap),(K w.params).In h->h.Ns mainGlobals mg->mg d.name=some (.ref fa)->
   ∃ fd:FuncData,(∀ (s:Shared) (u:Value),BindsTo s fd ⟨[u],[]⟩ [("_law_script",u)])/\∀ base:Heap,(K w.params).In base->base.Ns mainGlobals mg->tw l.prog w (K w.params) mg base uh 11 fa fd ["_law_script"] (sZ (K w.params) (yg zS nM))):
  PySem.W.WalkO q loose XP YP l.row.toRowW d [] (λ f vs=>PySem.call f vs):=
 L2.W3 (n:=63) (k:=11) (x:="_law_script") (CX:=λ _=>uh) (sp:=λ w=>sZ (K w.params) (yg zS nM)) hn (by decide) hdf ⟨rfl,by decide,by decide⟩ hY F (λ _ _ a ns hl hO hS=>Qs Qq hO hS hl) λ _ _ _ _ _ z=>z
end yE
open PySem PySem.W PyProof.Rows
set_option maxRecDepth 100000 in
set_option maxHeartbeats 0 in
theorem PySem.Challenge.cw_purseborder_k42_the_table_walked_holds : PySem.Challenge.rw_purseborder_k42_the_table_walked.Holds := by
 w_on;o_law;k_head;(case hw=>w_witness2)
 k_fill
 refine yE.W4 (l:=PySem.Challenge.rw_purseborder_k42_the_table_walked) rfl rfl (λ w h Y=>PySem.W.kIn_of Y) ?F
 case F=>
  intro w mg fa h KX G hmg;refine' yE.Ni KX G hmg ?_ ?_ ?_ ?_ ?_ ?_ ?_ ?_ ?_ ?_ ?_ ?_ ?_ ?_ ?_ ?_ ?_ ?_ ?_ ?_ ?_ ?_ ?_ ?_ ?_ ?_ ?_ ?_ ?_ ?_ ?_ ?_ ?_ ?_ ?_ ?_ ?_ ?_ ?_ ?_ ?_ ?_ ?_ ?_ ?_ ?_ ?_ ?_ ?_ ?_ ?_ ?_ ?_ ?_ ?_ ?_ ?_ ?_ ?_
  all_goals first | exact L5.Fx.i (by k_is) (by k_is) (by k_is) (by k_is) | k_is | exact L5.Cn.i (by k_is) (by exact⟨_,rfl⟩)
