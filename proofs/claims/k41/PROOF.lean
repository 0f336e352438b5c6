import PyProof.Rows.All
import Wide.All
import OpenK.AllK
import Wide.FinOn
import Lean
import PyProof.EqAt
import PyProof.EqKinds
import PyProof.TupleCall
import PySem.SetOps
import PyProof.SetScanFacts
import PyProof.TupleKey
import PyProof.SetKind
import PyProof.SetRoads
import PyProof.IsRules
import PyProof.ZipIter
import PyProof.TupleIter
import PyProof.ListMulRoad
import PyProof.FactsAll.tuple
import PyProof.ListRange
import PyProof.Draws
import PyProof.EnumFor
import PyProof.Rows.ListMul
import PyProof.AutoListH
import PySem.Challenge.RW_purseborder_k41_borders_told
set_option Elab.async false
set_option linter.all false
set_option maxRecDepth 100000
noncomputable section
noncomputable def zWb:=@PySem.wpAny_bind
noncomputable def zHp:=@PySem.Heap.get?_push_of_some
theorem zOb {α β:Type}{x:Option α}{f:α->Option β}{b:β} (h:x.bind f=some b):∃ a,x=some a/\f a=some b:=Option.bind_eq_some_iff.mp h
theorem zOm {α β:Type}{x:Option α}{f:α->β}{b:β} (h:x.map f=some b):∃ a,x=some a/\f a=b:=Option.map_eq_some_iff.mp h
theorem zMc {α:Type}{a:α}{l:List α}:a∈a::l:=List.mem_cons_self
theorem zMo {α:Type} (y:α) {a:α}{l:List α} (h:a∈l):a∈y::l:=List.mem_cons_of_mem y h
namespace L2
open PySem PySem.Spec PyProof.Rows
abbrev Key:=Sum Int Str
noncomputable def qV:Key->Value->Bool
 | .inl k,v=>Value.isInt k v
 | .inr x,v=>Value.isStrOf x v
noncomputable def T7 (w:World):Key->Int
 | .inl k=>hashInt k
 | .inr x=>hashStr w x
theorem tK:∀ {k:Key}{v:Value},qV k v=true->(∃ i t,k=Sum.inl i/\v=Value.int i t)\/(∃ x t,k=Sum.inr x/\v=Value.str x t)
 | .inl i,v,h=>by
  obtain⟨t,e⟩:=Value.isInt_shape (k:=i) (v:=v) h;exact .inl ⟨i,t,rfl,e⟩
 | .inr x,v,h=>by
  obtain⟨t,e⟩:=Value.isStrOf_shape (x:=x) (v:=v) h;exact .inr ⟨x,t,rfl,e⟩
theorem T6 (i:Int) (t:Tok):qV (.inl i) (.int i t)=true:=by simp[qV,Value.isInt]
theorem T5 (x:Str) (t:Tok):qV (.inr x) (.str x t)=true:=by simp[qV,Value.isStrOf]
theorem T4 (a b:Int):decide ((Sum.inl a:Key)=Sum.inl b)=(a == b):=by
 by_cases e:a=b
 .subst e;simp
 .have h:¬ (Sum.inl a:Key)=Sum.inl b:=λ q=>e (Sum.inl.inj q);rw[decide_eq_false h];exact (beq_eq_false_iff_ne.mpr e).symm
theorem Tz (a b:Str):decide ((Sum.inr a:Key)=Sum.inr b)=decide (a=b):=by
 by_cases e:a=b
 .subst e;simp
 .have h:¬ (Sum.inr a:Key)=Sum.inr b:=λ q=>e (Sum.inr.inj q);rw[decide_eq_false h,decide_eq_false e]
theorem T3 (a:Int) (b:Str):decide ((Sum.inl a:Key)=Sum.inr b)=false:=decide_eq_false (λ q=>nomatch q)
theorem T2 (a:Str) (b:Int):decide ((Sum.inr a:Key)=Sum.inl b)=false:=decide_eq_false (λ q=>nomatch q)
noncomputable def wK (prog:Program) (w:World):PySem.KeyKind prog w Key where
 is:=qV
 hash:=T7 w
 inj:=λ v a b ha hb=>by
  rcases tK ha with ⟨i,t,rfl,rfl⟩ | ⟨x,t,rfl,rfl⟩
  .rcases tK hb with ⟨j,u,rfl,e⟩ | ⟨y,u,rfl,e⟩
   .injection e with e1 _;rw[e1]
   .exact nomatch e
  .rcases tK hb with ⟨j,u,rfl,e⟩ | ⟨y,u,rfl,e⟩
   .exact nomatch e
   .injection e with e1 _;rw[e1]
 byValue:=λ k v h=>by
  rcases tK h with ⟨i,t,rfl,rfl⟩ | ⟨x,t,rfl,rfl⟩ <;> rfl
 pyHash:=λ hv h=>by
  rcases tK hv with ⟨i,t,rfl,rfl⟩ | ⟨x,t,rfl,rfl⟩
  .exact wpAny_pyHash_int h
  .exact wpAny_pyHash_str h
 eqBool:=λ hu hv h=>by
  rcases tK hu with ⟨i,t,rfl,rfl⟩ | ⟨x,t,rfl,rfl⟩
  .rcases tK hv with ⟨j,u,rfl,rfl⟩ | ⟨y,u,rfl,rfl⟩
   .rw[T4] at h;exact wpAny_eqBool_int h
   .rw[T3] at h;exact SeqAt.EqAt.int_str i t y u _ _ _ _ h
  .rcases tK hv with ⟨j,u,rfl,rfl⟩ | ⟨y,u,rfl,rfl⟩
   .rw[T2] at h;exact SeqAt.EqAt.str_int x t j u _ _ _ _ h
   .rw[Tz] at h;exact wpAny_eqBool_str h
 «strs»:=λ k x t v h=>by
  rcases tK h with ⟨i,u,rfl,e⟩ | ⟨y,u,rfl,e⟩
  .exact nomatch e
  .injection e with e1 _
   subst e1;cases v <;> rfl
theorem UU (prog:Program) (w:World) (i:Int) (t:Tok):(wK prog w).is (.inl i) (.int i t)=true:=T6 i t
theorem UT (prog:Program) (w:World) (x:Str) (t:Tok):(wK prog w).is (.inr x) (.str x t)=true:=T5 x t
end L2
namespace L2
open PySem PySem.Spec PyProof.Rows
inductive V where
 | zk | bl (b:Bool) | int (i:Int) | str (x:Str) | pC (b:Array UInt8) | l_ (b:UInt64) | ref (a:Addr) | ty (n:String)
 deriving DecidableEq
noncomputable def RelV:V->Value->Prop
 | .zk,u=>u=Value.none
 | .bl b,u=>u=Value.bool b
 | .int i,u=>∃ t,u=Value.int i t
 | .str x,u=>∃ t,u=Value.str x t
 | .pC b,u=>∃ t,u=Value.bytes b t
 | .l_ b,u=>∃ t,u=Value.float b t
 | .ref a,u=>u=Value.ref a
 | .ty n,u=>u=Value.type n
abbrev Vals:List V->List Value->Prop:=Paired RelV
theorem Vals.length {xs:List V}{us:List Value}(r:Vals xs us):xs.length=us.length:=Paired.length r
theorem Vals.get:∀ {xs:List V}{us:List Value}{i:Nat}{x:V},Vals xs us->xs[i]?=some x->∃ u,us[i]?=some u/\RelV x u
 | _,_,_,_,.nil,e=>by simp at e
 | _,_,0,_,.cons r _,e=>by simp at e;subst e;exact⟨_,rfl,r⟩
 | _,_,i+1,x,.cons _ t,e=>by
  obtain⟨u,h1,h2⟩:=Vals.get (i:=i) (x:=x) t (by simpa using e);exact⟨u,by simpa using h1,h2⟩
theorem Vals.set {x:V}{u:Value}(r:RelV x u):∀ {xs:List V}{us:List Value}(i:Nat),Vals xs us->Vals (xs.set i x) (us.set i u)
 | _,_,_,.nil=>.nil
 | _,_,0,.cons _ t=>.cons r t
 | _,_,i+1,.cons q t=>.cons q (Vals.set r i t)
theorem Vals.append:∀ {xs ys:List V}{us ws:List Value},Vals xs us->Vals ys ws->Vals (xs++ys) (us++ws)
 | _,_,_,_,.nil,s=>s
 | _,_,_,_,.cons r t,s=>.cons r (Vals.append t s)
noncomputable def uv:Option V->Option Value->Prop
 | some v,some u=>RelV v u
 | none,none=>True
 | _,_=>False
def KV {κ:Type}:List (κ × V)->List (κ × Value)->Prop:=Paired λ(p:κ × V) (q:κ × Value)=>p.1=q.1/\RelV p.2 q.2
noncomputable def kV:Key->V
 | .inl i=>.int i
 | .inr x=>.str x
inductive HO where
  | lst (xs:List V)
  | tup (xs:List V)
  | dK (kvs:List (Key×V)) | dT (kvs:List (List Key×V))
  | set (S:Int->Bool) (n:Nat)
  | ins (C dx:Addr) (fs:List (Str×V))
  | own (x:Addr)
  | xd (fs:List (Str×V))
  | met (f x:Addr)
  | jS (lo hi:Int)
  | wq (o:Obj) (u:HO)
  | rq (ps:Array Value)
  | ext (φ:Heap->Prop)
abbrev Hp:=Addr->Option HO
noncomputable def upd (H:Hp) (a:Addr) (o:HO):Hp:=λ b=>if b=a then some o else H b
theorem yL {H:Hp}{a:Addr}{o:HO}:upd H a o a=some o:=by unfold upd;rw[if_pos rfl]
theorem yM {H:Hp}{a b:Addr}{o:HO}(h:b≠a):upd H a o b=H b:=by unfold upd;rw[if_neg h]
theorem oU {H:Hp}{a b:Addr}{o u:HO}(h:H a=some o) (h':H b=some u) (d:o≠u):a≠b:=by
 intro e;subst e;rw[h] at h';exact d (Option.some.inj h')
theorem sO {H:Hp}{a b:Addr}{o:HO}(h:H a=some o) (h':H b=none):a≠b:=by
 intro e;subst e;rw[h] at h';cases h'
section
variable (P:Program) (w:World)
noncomputable def xm (H:Hp) (h:Heap) (a:Addr):HO->Prop
 | .lst xs=>xs.length<=sizeLine/\∃ (its:List Value) (n:Nat),Vals xs its/\h.get? a=some { cls:=.type "list",data:=.seq its.toArray n }
 | .tup xs=>xs.length<=sizeLine/\∃ its:List Value,Vals xs its/\IsTup h a its.toArray
 | .dK kvs=>kvs.length<=sizeLine/\(a == sysModules)=false/\∃ vs,KV kvs vs/\h.DictOf (wK P w) a vs
 | .dT kvs=>kvs.length<=sizeLine/\(a == sysModules)=false/\∃ xs:List (List Key×Addr×Value),
   Paired (λ(p:List Key×V) (q:List Key×Addr×Value)=>p.1=q.1/\H q.2.1=some (.tup (p.1.map kV))/\RelV p.2 q.2.2) kvs xs/\
   ∃ o es ep,h.get? a=some o/\o.ExactDict/\o.data=.dict es ep/\es.toList=xs.map (entryOfKey (tupleKind (wK P w)))/\(xs.map (·.1)).Nodup
 | .set S n=>h.SetOf (intKind P w) a S n
 | .ins C dx fs=>H dx=some (.own a)/\fs.length<=1000/\dx≠a/\h.get? a=some (PySem.W.instObj C dx)/\
   ∃ mA,h.Ns1 dx mA/\(∀ f,uv (fs.lookup f) (mA f))/\PySem.Within mA (fs.map (·.1))
 | .own _=>∃ o,h.get? a=some o
 | .xd fs=>∃ mA,h.Ns1 a mA/\∀ f,uv (fs.lookup f) (mA f)
 | .jS lo hi=>∃ t u v,h.get? a=some { cls:=.type "range",data:=.fields #[.int lo t,.int hi u,.int 1 v] }
 | .wq o u=>h.get? a=some o/\xm H h a u
 | .rq ps=>h.get? a=some { cls:=.none,data:=.fields ps }
 | .met f x=>h.get? a=some (PySem.W.methodObj (.ref f) (.ref x))
 | .ext φ=>φ h/\(∃ o,h.get? a=some o)/\∀ h1 h2:Heap,φ h1->(∀ o,h1.get? a=some o->h2.get? a=some o)->φ h2
def xb (H:Hp) (h:Heap):Prop:=∀ a o,H a=some o->xm P w H h a o
end
section
variable {P:Program}{w:World}{H H':Hp}{h h':Heap}{a:Addr}{o:HO}
theorem xm.lt (x:xm P w H h a o):a<h.objs.size:=by
 cases o with
 | lst xs=>obtain⟨_,_,_,_,e⟩:=x;exact Heap.lt_size e
 | tup xs=>obtain⟨_,_,_,p⟩:=x;exact p.lt
 | dK kvs=>obtain⟨_,_,_,_,o,_,_,e,_⟩:=x;exact Heap.lt_size e
 | dT kvs=>obtain⟨_,_,_,_,o,_,_,e,_⟩:=x;exact Heap.lt_size e
 | set S n=>obtain⟨o,_,_,_,e,_⟩:=x;exact Heap.lt_size e
 | ins C dx fs=>obtain⟨_,_,_,e,_⟩:=x;exact Heap.lt_size e
 | own y=>obtain⟨_,e⟩:=x;exact Heap.lt_size e
 | xd fs=>obtain⟨_,⟨_,_,_,e,_⟩,_⟩:=x;exact Heap.lt_size e
 | jS lo hi=>obtain⟨_,_,_,e⟩:=x;exact Heap.lt_size e
 | wq ob u=>obtain⟨e,_⟩:=x;exact Heap.lt_size e
 | rq ps=>exact Heap.lt_size (show h.get? a=some _ from x)
 | met f y=>exact Heap.lt_size (show h.get? a=some _ from x)
 | ext φ=>obtain⟨_,⟨_,e⟩,_⟩:=x;exact Heap.lt_size e
theorem Paired.lN {α β:Type}{F G:α->β->Prop}:∀ {l₁:List α}{l₂:List β},Paired F l₁ l₂->(∀ a b,F a b->G a b)->Paired G l₁ l₂
 | _,_,.nil,_=>.nil
 | _,_,.cons r t,f=>.cons (f _ _ r) (Paired.lN t f)
theorem xm.t5 (x:xm P w H h a o) (k:∀ b u,(b=a\/H b=some (.own a))->h.get? b=some u->h'.get? b=some u)
  (ho:∀ b,H b=some (.own a)->H' b=some (.own a)) (ht:∀ b xs,H b=some (.tup xs)->H' b=some (.tup xs)):xm P w H' h' a o:=by
 induction o with
 | lst xs=>obtain⟨z,its,n,r,e⟩:=x;exact⟨z,its,n,r,k _ _ (.inl rfl) e⟩
 | tup xs=>obtain⟨z,its,r,ob,e,c⟩:=x;exact⟨z,its,r,ob,k _ _ (.inl rfl) e,c⟩
 | dK kvs=>obtain⟨z,y,vs,r,ob,es,ep,e,c⟩:=x;exact⟨z,y,vs,r,ob,es,ep,k _ _ (.inl rfl) e,c⟩
 | dT kvs=>
  obtain⟨z,y,xs,r,ob,es,ep,e,c⟩:=x;exact⟨z,y,xs,Paired.lN r λ p q z=>⟨z.1,ht _ _ z.2.1,z.2.2⟩,ob,es,ep,k _ _ (.inl rfl) e,c⟩
 | set S n=>obtain⟨ob,es,ep,t,e,c⟩:=x;exact⟨ob,es,ep,t,k _ _ (.inl rfl) e,c⟩
 | ins C dx fs=>
  obtain⟨d,z,ne,e,mA,⟨od,es,ep,e2,c⟩,r⟩:=x;exact⟨ho _ d,z,ne,k _ _ (.inl rfl) e,mA,⟨od,es,ep,k _ _ (.inr d) e2,c⟩,r⟩
 | own y=>obtain⟨ob,e⟩:=x;exact⟨ob,k _ _ (.inl rfl) e⟩
 | xd fs=>obtain⟨mA,⟨od,es,ep,e,c⟩,r⟩:=x;exact⟨mA,⟨od,es,ep,k _ _ (.inl rfl) e,c⟩,r⟩
 | jS lo hi=>obtain⟨t,u,v,e⟩:=x;exact⟨t,u,v,k _ _ (.inl rfl) e⟩
 | wq ob u ih=>obtain⟨e,q⟩:=x;exact⟨k _ _ (.inl rfl) e,ih q⟩
 | rq ps=>
  have e:h.get? a=some { cls:=.none,data:=.fields ps }:=x;show h'.get? a=some { cls:=.none,data:=.fields ps };exact k a _ (.inl rfl) e
 | met f y=>
  have e:h.get? a=some (PySem.W.methodObj (.ref f) (.ref y)):=x;show h'.get? a=some (PySem.W.methodObj (.ref f) (.ref y));exact k a _ (.inl rfl) e
 | ext φ=>obtain⟨p,⟨o,e⟩,st⟩:=x;exact⟨st _ _ p λ o q=>k _ _ (.inl rfl) q,⟨o,k _ _ (.inl rfl) e⟩,st⟩
theorem xb.lt (x:xb P w H h) (e:H a=some o):a<h.objs.size:=(x a o e).lt
theorem xb.fresh (x:xb P w H h) (e:h.objs.size<=a):H a=none:=by
 cases q:H a with
 | none=>rfl
 | some u=>exact absurd (Nat.lt_of_lt_of_le (x.lt q) e) (Nat.lt_irrefl _)
theorem xb.kept (x:xb P w H h) (k:∀ b u,h.get? b=some u->h'.get? b=some u):xb P w H h':=λ a o e=>
 (x a o e).t5 (λ b u _ q=>k b u q) (λ _ q=>q) λ _ _ q=>q
theorem xb.laid (x:xb P w H h) (k:∀ b u,h.get? b=some u->h'.get? b=some u) (hp:h.objs.size<=a) (new:xm P w (upd H a o) h' a o):xb P w (upd H a o) h':=λ b u e=>by
 have hn:=x.fresh hp;by_cases hb:b=a
 .subst hb;rw[yL] at e;cases e;exact new
 .rw[yM hb] at e;exact (x b u e).t5 (λ c v _ q=>k c v q) (λ c q=>by rw[yM (sO q hn)];exact q) λ c xs q=>by rw[yM (sO q hn)];exact q
end
def Rd (H:Hp) (a:Addr) (u:HO):Prop:=H a=some u\/∃ o,H a=some (.wq o u)
theorem Rd.ok {P:Program}{w:World}{H:Hp}{h:Heap}{a:Addr}{u:HO}(r:Rd H a u) (x:xb P w H h):xm P w H h a u:=by
 rcases r with r | ⟨o,r⟩
 .exact x a u r
 .obtain⟨_,q⟩:=x a _ r;exact q
noncomputable def ml:Option HO->Prop
 | some (.lst _)=>True
 | some (.dK _)=>True
 | some (.dT _)=>True
 | some (.set _ _)=>True
 | some (.ins _ _ _)=>True
 | some (.ext _)=>True
 | _=>False
section
variable {P:Program}{w:World}{H:Hp}{h h':Heap}{x e:Addr}{o':HO}
theorem xb.write (ok:xb P w H h) (mu:ml (H x)) (he:e=x\/H e=some (.own x)) (k:∀ b u,b≠e->h.get? b=some u->h'.get? b=some u) (heo:∃ u,h'.get? e=some u)
  (new:xm P w (upd H x o') h' x o'):xb P w (upd H x o') h':=λ b u q=>by
 have nown:∀ c y,H c=some (.own y)->c≠x:=λ c y r z=>by subst z;rw[r] at mu;exact mu
 have ntup:∀ c xs,H c=some (.tup xs)->c≠x:=λ c xs r z=>by subst z;rw[r] at mu;exact mu
 by_cases hb:b=x
 .subst hb;rw[yL] at q;cases q;exact new
 .rw[yM hb] at q;by_cases hbe:b=e
  .have q':H b=some (.own x):=by
    rcases he with z | z
    .exact absurd (hbe.trans z) hb
    .rw[hbe];exact z
   rw[q] at q';cases q';obtain⟨v,hv⟩:=heo;exact⟨v,by rw[hbe];exact hv⟩
  .refine (ok b u q).t5 (λ c v hc r=>k c v ?_ r) (λ c r=>by rw[yM (nown c b r)];exact r) λ c xs r=>by rw[yM (ntup c xs r)];exact r
   rcases hc with rfl | hc
   .exact hbe
   .rintro rfl;rcases he with z | z
    .exact nown c b hc z
    .rw[hc] at z;cases z;exact hb rfl
end
structure Un (fs ex:List Addr) (H H':Hp) (h h':Heap):Prop where
 keep:∀ b o,h.get? b=some o->H b=none->b∉fs->b∉ex->h'.get? b=some o
 slot:∀ b o,h.get? b=some o->H b=none->b∈fs->b∉ex->∃ sl,h'.get? b=some { o with slots:=sl }
 free:∀ b o,h.get? b=some o->H b=none->b∉ex->H' b=none
 there:∀ b o,h.get? b=some o->b∉ex->∃ o',h'.get? b=some o'
 uK:∀ b xs,H b=some (.tup xs)->H' b=some (.tup xs)
 tN:∀ b o u,H b=some (.wq o u)->H' b=some (.wq o u)
 sC:∀ b ps,H b=some (.rq ps)->∃ more,H' b=some (.rq (ps++more))
section
variable {fs fs' ex ex':List Addr}{H H1 H2:Hp}{h h1 h2 h':Heap}{a x e:Addr}{o:HO}
theorem Un.any (u:Un fs ex H H1 h h1) {b:Addr}{ob:Obj}(q:h.get? b=some ob) (n:H b=none) (hx:b∉ex):∃ sl,h1.get? b=some { ob with slots:=sl }:=by
 by_cases hb:b∈fs
 .exact u.slot b ob q n hb hx
 .exact⟨ob.slots,u.keep b ob q n hb hx⟩
theorem Un.kept (k:∀ b u,h.get? b=some u->h'.get? b=some u):Un fs ex H H h h':=
 ⟨λ b ob q _ _ _=>k b ob q,λ b ob q _ _ _=>⟨ob.slots,k b ob q⟩,λ _ _ _ n _=>n,λ b ob q _=>⟨ob,k b ob q⟩,λ _ _ q=>q,λ _ _ _ q=>q,λ _ ps q=>⟨#[],by rw[q];simp⟩⟩
theorem Un.refl:Un fs ex H H h h:=Un.kept λ _ _ q=>q
theorem Un.laid (k:∀ b u,h.get? b=some u->h'.get? b=some u) (hp:h.objs.size<=a) (hn:H a=none):Un fs ex H (upd H a o) h h' where
 keep:=λ b u q _ _ _=>k b u q
 slot:=λ b u q _ _ _=>⟨u.slots,k b u q⟩
 free:=λ b u q n _=>by rw[yM (Nat.ne_of_lt (Nat.lt_of_lt_of_le (Heap.lt_size q) hp))];exact n
 there:=λ b u q _=>⟨u,k b u q⟩
 uK:=λ b xs q=>by rw[yM (sO q hn)];exact q
 tN:=λ b u xs q=>by rw[yM (sO q hn)];exact q
 sC:=λ b ps q=>⟨#[],by rw[yM (sO q hn),q];simp⟩
theorem Un.write (mu:ml (H x)) (he:e=x\/H e=some (.own x)) (k:∀ b u,b≠e->h.get? b=some u->h'.get? b=some u) (heo:∃ u,h'.get? e=some u):Un fs ex H (upd H x o) h h':=by
 have hx:∀ b,H b=none->b≠x:=λ b n z=>by subst z;rw[n] at mu;exact mu
 have hb:∀ b,H b=none->b≠e:=λ b n z=>by
  subst z;rcases he with r | r
  .exact hx b n r
  .rw[n] at r;cases r
 have hm:∀ b u,H b=some u->¬ ml (some u)->b≠x:=λ b u q nm z=>by subst z;rw[q] at mu;exact nm mu
 refine⟨λ b u q n _ _=>k b u (hb b n) q,λ b u q n _ _=>⟨u.slots,k b u (hb b n) q⟩,λ b u q n _=>by rw[yM (hx b n)];exact n,λ b u q _=>?_,
  λ b xs q=>by rw[yM (hm b _ q λ z=>z)];exact q,λ b u xs q=>by rw[yM (hm b _ q λ z=>z)];exact q,λ b ps q=>⟨#[],by rw[yM (hm b _ q λ z=>z),q];simp⟩⟩
 by_cases hbe:b=e
 .subst hbe;exact heo
 .exact⟨u,k b u hbe q⟩
end
noncomputable def mP (h:Heap) (H:Hp):List Addr:=(List.range h.objs.size).filter λ a=>(H a).isSome
noncomputable def tL (h:Heap) (H:Hp):Heap:=PySem.W.hideAll h (mP h H)
theorem Sh (h:Heap) (H:Hp):(tL h H).objs.size=h.objs.size:=PySem.W.hideAll_size _ _
theorem Si {h:Heap}{H:Hp}{b:Addr}{o:Obj}(e:h.get? b=some o) (n:H b=none):(tL h H).get? b=some o:=
 PySem.W.hideAll_get _ e λ hm=>by
  have q:(H b).isSome=true:=(List.mem_filter.mp hm).2;rw[n] at q;simp at q
theorem UC {h:Heap}{H:Hp}{b:Addr}{o:Obj}(e:(tL h H).get? b=some o):h.get? b=some o/\H b=none:=by
 have e':h.get? b=some o:=PySem.W.of_hideAll (mP h H) e;refine⟨e',?_⟩;cases q:H b with
 | none=>rfl
 | some x=>
  have hm:b∈mP h H:=List.mem_filter.mpr ⟨List.mem_range.mpr (Heap.lt_size e'),by simp[q]⟩;have z:(tL h H).get? b=none:=PySem.W.hideAll_none (mP h H) hm;rw[z] at e;cases e
end L2
namespace L2
open PySem PySem.Spec PyProof.Rows
structure Mod (K:PySem.W.Frag) (mg:Str->Option Value) (base:Heap):Prop where
 iV:K.In base
 glob:base.Ns mainGlobals mg
 blt:∃ mb,base.Ns builtinsNs mb/\∀ x:Str,x≠"__name__"->mb x=bootBuiltins x
 nolimit:base.NoLimit
structure Cx where
 prog:Program
 w:World
 K:PySem.W.Frag
 mg:Str->Option Value
 base:Heap
 A:Around
 N:List Str
 s₀:Shared
 H₀:Hp
 env:Env
 outer:List Env
 stack:List Env
 ex:List Addr
 fn:Str->Bool
 calm:Bool
 pn:List (Addr×Obj)
 xe:Value->Shared->Prop
noncomputable def vG (l:List Env):List Addr:=l.filterMap (·.frame)
abbrev Cx.fs (X:Cx):List Addr:=vG X.outer
def gP (sc:Scope) (x:Str):Prop:=sc.names.lookup x=some .local\/sc.names.lookup x=some .cell\/sc.names.lookup x=some .free
def Loc (sc:Scope) (x:Str):Prop:=sc.names.lookup x=some .local\/sc.names.lookup x=some .cell
def Look (env:Env) (h:Heap) (m:Str->Option Value) (x:Str) (u:Value):Prop:=
 (env.kindOf x=some .local/\m x=some u)\/((env.kindOf x=some .cell\/env.kindOf x=some .free)/\∃ c,env.cells.lookup x=some c/\h.IsCell c (some u))
structure Cx.Ok (X:Cx):Prop where
 mod:Mod X.K X.mg X.base
 kind:X.env.scope.kind=.function
 glob:X.env.globals=mainGlobals
 blt:X.env.builtins=builtinsNs
 above:X.s₀.heap.objs.size<=X.env.locals
 inj:∀ x y c,X.env.cells.lookup x=some c->X.env.cells.lookup y=some c->x=y
 has:∀ x,(X.env.kindOf x=some .cell\/X.env.kindOf x=some .free)->∃ c,X.env.cells.lookup x=some c
 nW:∀ x c,X.fn x=true->X.env.cells.lookup x=some c->X.s₀.heap.objs.size<=c
 hd:X.calm=true->X.A.handled=none
 frames:X.A.frames=some X.stack
 mR:X.stack=X.outer\/(X.stack=X.env::X.outer/\X.env.frame=some X.env.locals)
 gr:∀ b∈X.ex,b≠X.env.locals/\∀ x c,X.env.cells.lookup x=some c->c≠b
 bs:∀ b o,X.base.get? b=some o->X.s₀.heap.get? b=some o/\X.H₀ b=none
 qc:X.base.objs.size<=X.s₀.heap.objs.size
 oQ:∀ b o,X.base.get? b=some o->b∉X.ex
 nD:∀ b∈X.ex,b∉X.fs
 u9:X.s₀.heap.FunFrames X.base X.outer
 pz:∀ b∈X.fs,X.H₀ b=none
structure Inv (X:Cx) (pins:List (Addr×Obj)) (σ:List (Option V)) (H:Hp) (s:Shared):Prop where
 ok:X.Ok
 os:s.os=X.s₀.os
 bare:AllBare s.gens
 base:Un X.fs X.ex X.H₀ H X.s₀.heap s.heap
 loc:∃ m,s.heap.Ns X.env.locals m/\∀ (i:Nat) (x:Str) (v:V),X.N[i]?=some x->σ[i]?=some (some v)->gP X.env.scope x->∃ u,RelV v u/\Look X.env s.heap m x u
 cell:∀ x c,X.env.cells.lookup x=some c->∃ v,s.heap.IsCell c v
 free:H X.env.locals=none
 uW:∀ x c,X.env.cells.lookup x=some c->H c=none
 pin:∀ p∈X.pn++pins,s.heap.get? p.1=some p.2/\H p.1=none/\p.1≠X.env.locals/\p.1∉X.fs/\∀ v,p.2.data≠.cell v
 zE:xb X.prog X.w H s.heap
 len:σ.length=X.N.length
section
variable {X:Cx}{pins:List (Addr×Obj)}{σ:List (Option V)}{H H':Hp}{s:Shared}{h':Heap}
theorem Cx.Ok.UH (ok:X.Ok) {b:Addr}{o:Obj}(e:X.base.get? b=some o):b∉X.fs:=λ hb=>by
 have:=(ok.u9.mem hb).1;rw[e] at this;cases this
theorem Inv.bs (I:Inv X pins σ H s):∀ b o,X.base.get? b=some o->s.heap.get? b=some o/\H b=none:=λ b o e=>
 ⟨I.base.keep b o (I.ok.bs b o e).1 (I.ok.bs b o e).2 (I.ok.UH e) (I.ok.oQ b o e),I.base.free b o (I.ok.bs b o e).1 (I.ok.bs b o e).2 (I.ok.oQ b o e)⟩
theorem Inv.bk (I:Inv X pins σ H s):∀ b o,X.base.get? b=some o->s.heap.get? b=some o:=λ b o e=>(I.bs b o e).1
theorem Inv.mod (I:Inv X pins σ H s):Mod X.K X.mg X.base:=I.ok.mod
theorem Inv.vB (I:Inv X pins σ H s):X.K.In s.heap:=I.ok.mod.iV.keeps I.bk
theorem Inv.lt (I:Inv X pins σ H s):X.env.locals<s.heap.objs.size:=let ⟨_,hn,_⟩:=I.loc;hn.lt
theorem Inv.sz (I:Inv X pins σ H s):X.s₀.heap.objs.size<=s.heap.objs.size:=Nat.le_trans I.ok.above (Nat.le_of_lt I.lt)
theorem Inv.cv (I:Inv X pins σ H s) {a:Addr}(h:s.heap.objs.size<=a):a∉X.fs:=λ hb=>by
 obtain⟨_,o,ho,_⟩:=I.ok.u9.mem hb;exact absurd (Nat.lt_of_lt_of_le (Heap.lt_size ho) (Nat.le_trans I.sz h)) (Nat.lt_irrefl _)
theorem Inv.qb (I:Inv X pins σ H s):∀ x c,X.env.cells.lookup x=some c->c≠X.env.locals:=λ x c e z=>by
 obtain⟨v,o,ho,hd⟩:=I.cell x c e;obtain⟨m,⟨o',es,ep,ho',hd',_⟩,_⟩:=I.loc;rw[z,ho'] at ho;cases ho;rw[hd'] at hd;cases hd
theorem Inv.u9 (I:Inv X pins σ H s):s.heap.FunFrames X.base X.outer:=by
 have all:∀ (l:List Env),(∀ b∈vG l,b∈X.fs)->X.s₀.heap.FunFrames X.base l->s.heap.FunFrames X.base l:=by
  intro l
  induction l with
  | nil=>intro _ _;trivial
  | cons env r ih=>
   intro hs hl;obtain⟨hk,⟨L,o,hf,hn,ho,hd⟩,hr⟩:=hl;have hL:L∈X.fs:=hs L (by unfold vG;rw[List.filterMap_cons,hf];exact zMc);obtain⟨sl,e⟩:=I.base.slot L o ho (I.ok.pz L hL) hL λ z=>I.ok.nD L z hL;exact⟨hk,⟨L,_,hf,hn,e,hd⟩,ih (λ b hb=>hs b (by unfold vG;rw[List.filterMap_cons,hf];exact zMo _ hb)) hr⟩
 exact all X.outer (λ _ hb=>hb) I.ok.u9
theorem Inv.stack (I:Inv X pins σ H s):s.heap.FunFrames X.base X.stack:=by
 rcases I.ok.mR with e | ⟨e,hf⟩
 .rw[e];exact I.u9
 .rw[e];obtain⟨m,hn,_⟩:=I.loc;refine .cons (by rw[I.ok.kind];decide) hf hn ?_ I.u9;exact Heap.get?_none_of_le (Nat.le_trans I.ok.qc I.ok.above)
theorem Inv.jm (I:Inv X pins σ H s):∀ b∈vG X.stack,b∈X.env.locals::X.fs:=λ b hb=>by
 rcases I.ok.mR with e | ⟨e,hf⟩
 .rw[e] at hb;exact zMo _ hb
 .rw[e] at hb;unfold vG at hb;rw[List.filterMap_cons,hf] at hb;exact hb
theorem Inv.eF (I:Inv X pins σ H s):∀ b∈vG X.stack,H b=none:=λ b hb=>by
 rcases List.mem_cons.mp (I.jm b hb) with e | hb
 .rw[e];exact I.free
 .obtain⟨_,o,ho,_⟩:=I.ok.u9.mem hb;exact I.base.free b o ho (I.ok.pz b hb) λ z=>I.ok.nD b z hb
theorem Inv.step {g':Array GenState}{t':Nat}{d':Drawn}{ch:List Addr}(I:Inv X pins σ H s)
  (hch:∀ b∈ch,(b∈X.ex\/X.s₀.heap.objs.size<=b)/\b≠X.env.locals/\(∀ x c,X.env.cells.lookup x=some c->c≠b)/\∀ p∈X.pn++pins,p.1≠b)
  (keep:∀ b o,b≠X.env.locals->b∉X.fs->b∉ch->s.heap.get? b=some o->H b=none->h'.get? b=some o)
  (slot:∀ b o,b≠X.env.locals->b∈X.fs->b∉ch->s.heap.get? b=some o->H b=none->∃ sl,h'.get? b=some { o with slots:=sl }) (free:∀ b o,b∉ch->s.heap.get? b=some o->H b=none->H' b=none)
  (there:∀ b o,b∉ch->s.heap.get? b=some o->∃ o',h'.get? b=some o')
  (uK:∀ b xs,H b=some (.tup xs)->H' b=some (.tup xs)) (tN:∀ b o u,H b=some (.wq o u)->H' b=some (.wq o u)) (sC:∀ b ps,H b=some (.rq ps)->∃ more,H' b=some (.rq (ps++more)))
  (ns:∀ m,s.heap.Ns X.env.locals m->h'.Ns X.env.locals m) (zE:xb X.prog X.w H' h') (hg:AllBare g'):
  Inv X pins σ H' { s with heap:=h',gens:=g',drawn:=d',toks:=t' }:=by
 have neL:∀ b o,X.s₀.heap.get? b=some o->b≠X.env.locals:=λ b o e=>Nat.ne_of_lt (Nat.lt_of_lt_of_le (Heap.lt_size e) I.ok.above);have neC:∀ b o,X.s₀.heap.get? b=some o->b∉X.ex->b∉ch:=λ b o e hx hb=>by
  rcases (hch b hb).1 with z | z
  .exact hx z
  .exact absurd (Nat.lt_of_lt_of_le (Heap.lt_size e) z) (Nat.lt_irrefl _)
 have cellK:∀ x c,X.env.cells.lookup x=some c->∀ v,s.heap.IsCell c v->h'.IsCell c v:=λ x c e v ⟨o,ho,hd⟩=>by
  have nch:c∉ch:=λ z=>(hch c z).2.2.1 x c e rfl;by_cases hc:c∈X.fs
  .obtain⟨sl,q⟩:=slot c o (I.qb x c e) hc nch ho (I.uW x c e);exact⟨_,q,hd⟩
  .exact⟨o,keep c o (I.qb x c e) hc nch ho (I.uW x c e),hd⟩
 refine⟨I.ok,I.os,hg,⟨λ b o e n hb hx=>?_,λ b o e n hb hx=>?_,λ b o e n hx=>?_,λ b o e hx=>?_,λ b xs e=>uK b xs (I.base.uK b xs e),λ b o xs e=>tN b o xs (I.base.tN b o xs e),λ b ps e=>?_⟩,?_,λ x c e=>?_,?_,λ x c e=>?_,λ p hp=>?_,zE,I.len⟩
 .exact keep b o (neL b o e) hb (neC b o e hx) (I.base.keep b o e n hb hx) (I.base.free b o e n hx)
 .obtain⟨sl,e1⟩:=I.base.slot b o e n hb hx;obtain⟨sl',e2⟩:=slot b _ (neL b o e) hb (neC b o e hx) e1 (I.base.free b o e n hx);exact⟨sl',e2⟩
 .obtain⟨o',e1⟩:=I.base.there b o e hx;exact free b o' (neC b o e hx) e1 (I.base.free b o e n hx)
 .obtain⟨o',e1⟩:=I.base.there b o e hx;exact there b o' (neC b o e hx) e1
 .obtain⟨m1,e1⟩:=I.base.sC b ps e;obtain⟨m2,e2⟩:=sC b _ e1;exact⟨m1++m2,by rw[e2,Array.append_assoc]⟩
 .obtain⟨m,hn,hl⟩:=I.loc;refine⟨m,ns m hn,λ i x v e1 e2 e3=>?_⟩;obtain⟨u,r,l⟩:=hl i x v e1 e2 e3;refine⟨u,r,?_⟩;rcases l with l | ⟨k,c,e,z⟩
  .exact .inl l
  .exact .inr ⟨k,c,e,cellK x c e _ z⟩
 .obtain⟨v,z⟩:=I.cell x c e;exact⟨v,cellK x c e v z⟩
 .obtain⟨m,⟨o,_,_,ho,_⟩,_⟩:=I.loc;exact free _ o (λ z=>(hch _ z).2.1 rfl) ho I.free
 .obtain⟨v,o,ho,hd⟩:=I.cell x c e;exact free c o (λ z=>(hch c z).2.2.1 x c e rfl) ho (I.uW x c e)
 .obtain⟨e,n,ne,nf,d⟩:=I.pin p hp;have nch:p.1∉ch:=λ z=>(hch p.1 z).2.2.2 p hp rfl;exact⟨keep p.1 p.2 ne nf nch e n,free p.1 p.2 nch e n,ne,nf,d⟩
theorem Inv.un {t':Nat}(I:Inv X pins σ H s) (u:Un X.fs [] H H' s.heap h') (zE:xb X.prog X.w H' h'):Inv X pins σ H' { s with heap:=h',toks:=t' }:=by
 obtain⟨m,⟨o,es,ep,ho,r⟩,_⟩:=id I.loc;obtain⟨sl,hL⟩:=u.any ho I.free (by simp);exact I.step (g':=s.gens) (d':=s.drawn) (ch:=[]) (λ _ z=>nomatch z) (λ b o _ hb _ e n=>u.keep b o e n hb (by simp)) (λ b o _ hb _ e n=>u.slot b o e n hb (by simp)) (λ b o _ e n=>u.free b o e n (by simp)) (λ b o _ e=>u.there b o e (by simp)) u.uK u.tN u.sC (λ m' hm=>by
  obtain⟨o',es',ep',ho',r'⟩:=hm;rw[ho] at ho';cases ho';exact⟨_,es',ep',hL,r'⟩) zE I.bare
theorem Inv.call {g':Array GenState}{t':Nat}{d':Drawn}{ch:List Addr}(I:Inv X pins σ H s) (u:Un (vG X.stack) ch H H' s.heap h') (zE:xb X.prog X.w H' h') (hg:AllBare g')
  (hch:∀ b∈ch,(b∈X.ex\/X.s₀.heap.objs.size<=b)/\b≠X.env.locals/\(∀ x c,X.env.cells.lookup x=some c->c≠b)/\∀ p∈X.pn++pins,p.1≠b):
  Inv X pins σ H' { s with heap:=h',gens:=g',drawn:=d',toks:=t' }:=by
 obtain⟨m,⟨o,es,ep,ho,r⟩,_⟩:=id I.loc;obtain⟨sl,hL⟩:=u.any ho I.free λ z=>(hch _ z).2.1 rfl;exact I.step (ch:=ch) hch (λ b o hL hb hc e n=>u.keep b o e n (λ z=>(List.mem_cons.mp (I.jm b z)).elim hL hb) hc) (λ b o _ _ hc e n=>u.any e n hc) (λ b o hc e n=>u.free b o e n hc) (λ b o hc e=>u.there b o e hc) u.uK u.tN u.sC (λ m' hm=>by
  obtain⟨o',es',ep',ho',r'⟩:=hm;rw[ho] at ho';cases ho';exact⟨_,es',ep',hL,r'⟩) zE hg
theorem Inv.turned {t':Nat}{it:Addr}(I:Inv X pins σ H s) (k:∀ b o,b≠it->s.heap.get? b=some o->h'.get? b=some o) (hn:H it=none) (hL:it≠X.env.locals)
  (h1:it∈X.ex\/X.s₀.heap.objs.size<=it) (h2:∀ x c,X.env.cells.lookup x=some c->c≠it) (h3:∀ p∈X.pn++pins,p.1≠it):Inv X pins σ H { s with heap:=h',toks:=t' }:=by
 have nit:∀ b u,H b=some u->b≠it:=λ b u e z=>by rw[z,hn] at e;cases e
 refine I.step (g':=s.gens) (d':=s.drawn) (ch:=[it]) (λ b hb=>?_) (λ b o _ _ hc e _=>k b o (λ z=>hc (by simp[z])) e) (λ b o _ _ hc e _=>⟨o.slots,k b o (λ z=>hc (by simp[z])) e⟩) (λ _ _ _ _ n=>n)
  (λ b o hc e=>⟨o,k b o (λ z=>hc (by simp[z])) e⟩) (λ _ _ e=>e) (λ _ _ _ e=>e) (λ b ps e=>⟨#[],by rw[e];simp⟩) (λ m hm=>?_) (λ b u e=>?_) I.bare
 .have e:b=it:=by simpa using hb
  subst e;exact⟨h1,hL,h2,h3⟩
 .obtain⟨o,es,ep,ho,r⟩:=hm;exact⟨o,es,ep,k _ o (Ne.symm hL) ho,r⟩
 .refine (I.zE b u e).t5 (λ c v hc q=>k c v ?_ q) (λ _ q=>q) λ _ _ q=>q;rcases hc with z | z
  .rw[z];exact nit b u e
  .exact nit c _ z
theorem Inv.tok (I:Inv X pins σ H s) (t:Nat):Inv X pins σ H { s with toks:=t }:=I.un (h':=s.heap) (t':=t) Un.refl I.zE
theorem Inv.kept {t':Nat}(I:Inv X pins σ H s) (k:∀ b u,s.heap.get? b=some u->h'.get? b=some u):Inv X pins σ H { s with heap:=h',toks:=t' }:=I.un (Un.kept k) (I.zE.kept k)
theorem Inv.laid {a:Addr}{o:HO}{t':Nat}(I:Inv X pins σ H s) (k:∀ b u,s.heap.get? b=some u->h'.get? b=some u) (hp:s.heap.objs.size<=a) (new:xm X.prog X.w (upd H a o) h' a o):
  Inv X pins σ (upd H a o) { s with heap:=h',toks:=t' }:=I.un (Un.laid k hp (I.zE.fresh hp)) (I.zE.laid k hp new)
theorem Inv.write {x e:Addr}{o:HO}{t':Nat}(I:Inv X pins σ H s) (mu:ml (H x)) (he:e=x\/H e=some (.own x)) (k:∀ b u,b≠e->s.heap.get? b=some u->h'.get? b=some u) (heo:∃ u,h'.get? e=some u)
  (new:xm X.prog X.w (upd H x o) h' x o):Inv X pins σ (upd H x o) { s with heap:=h',toks:=t' }:=I.un (Un.write mu he k heo) (I.zE.write mu he k heo new)
theorem Inv.ig {pins':List (Addr×Obj)}(I:Inv X pins σ H s) (h:∀ p∈pins',s.heap.get? p.1=some p.2/\H p.1=none/\p.1≠X.env.locals/\p.1∉X.fs/\∀ v,p.2.data≠.cell v):Inv X pins' σ H s:=
 ⟨I.ok,I.os,I.bare,I.base,I.loc,I.cell,I.free,I.uW,λ p hp=>(List.mem_append.mp hp).elim (λ z=>I.pin p (List.mem_append_left _ z)) (h p),I.zE,I.len⟩
theorem cx {N:List Str}(hN:N.Nodup) {i j:Nat}{x:Str}(a:N[i]?=some x) (b:N[j]?=some x):i=j:=by
 obtain⟨h1,e1⟩:=List.getElem?_eq_some_iff.mp a;obtain⟨h2,e2⟩:=List.getElem?_eq_some_iff.mp b;exact (List.getElem_inj hN).mp (e1.trans e2.symm)
theorem YW {M:Model}{A:Around}{E:Value->Shared->Prop}{i:Nat}{x:Str}{v:V}{u:Value}{Q:Unit->Shared->Prop}(I:Inv X pins σ H s) (hN:X.N.Nodup) (hi:X.N[i]?=some x) (hx:Loc X.env.scope x) (r:RelV v u)
  (h:∀ s',Inv X pins (σ.set i (some v)) H s'->(∃ a,Heap.SameBut a s.heap s'.heap/\(a=X.env.locals\/X.env.cells.lookup x=some a))->Q () s') (hf:X.fn x=true\/X.env.scope.names.lookup x=some .local:=by first | exact .inl rfl | exact .inr rfl | assumption):wpAny M A (storeName X.env x u) Q E s:=by
 obtain⟨m,hn,hl⟩:=id I.loc;have hcls:(X.env.scope.kind == .class||(X.env.scope.kind == .module&&X.env.locals != X.env.globals))=false:=by rw[I.ok.kind];rfl
 have hiσ:i < σ.length:=by rw[I.len];exact (List.getElem?_eq_some_iff.mp hi).1
 have qb:=I.qb;have tracked:∀ {a:Addr}{h':Heap},(∃ o,s.heap.get? a=some o/\H a=none)->Heap.SameBut a s.heap h'->xb X.prog X.w H h':=λ{a h'} ha hs b ob e=>by
  obtain⟨_,_,hfree⟩:=ha;refine (I.zE b ob e).t5 (λ c w' hc q=>(hs.2 c ?_).trans q) (λ _ q=>q) λ _ _ q=>q;rintro rfl;rcases hc with rfl | hc
  .rw[hfree] at e;cases e
  .rw[hfree] at hc;cases hc
 rcases hx with hk | hk
 .refine wpAny_storeName_local hk hn (λ h' hn' hs=>?_) hcls;obtain⟨oL,_,_,hoL,_⟩:=id hn;refine h _ ⟨I.ok,I.os,I.bare,⟨λ b o e n hb hx=>?_,λ b o e n hb hx=>?_,I.base.free,λ b o e hx=>?_,I.base.uK,I.base.tN,I.base.sC⟩,⟨_,hn',λ j y v' e1 e2 e3=>?_⟩,λ y c e=>?_,I.free,I.uW,λ p hp=>?_,tracked ⟨oL,hoL,I.free⟩ hs,by simpa using I.len⟩ ⟨_,hs,.inl rfl⟩
  .exact (hs.2 b (Nat.ne_of_lt (Nat.lt_of_lt_of_le (Heap.lt_size e) I.ok.above))).trans (I.base.keep b o e n hb hx)
  .obtain⟨sl,e1⟩:=I.base.slot b o e n hb hx;exact⟨sl,(hs.2 b (Nat.ne_of_lt (Nat.lt_of_lt_of_le (Heap.lt_size e) I.ok.above))).trans e1⟩
  .obtain⟨o',e1⟩:=I.base.there b o e hx;exact⟨o',(hs.2 b (Nat.ne_of_lt (Nat.lt_of_lt_of_le (Heap.lt_size e) I.ok.above))).trans e1⟩
  .by_cases hj:j=i
   .subst hj;rw[hi] at e1;cases e1;rw[List.getElem?_set_self hiσ] at e2;cases e2;exact⟨u,r,.inl ⟨hk,by simp⟩⟩
   .rw[List.getElem?_set_ne (Ne.symm hj)] at e2;obtain⟨u',r',q⟩:=hl j y v' e1 e2 e3;refine⟨u',r',?_⟩;rcases q with ⟨k,e⟩ | ⟨k,c,e,z⟩
    .refine .inl ⟨k,?_⟩;have:y≠x:=λ e=>hj (cx hN e1 (e▸hi));simp[this,e]
    .exact .inr ⟨k,c,e,z.sameBut hs (qb y c e)⟩
  .obtain⟨w',z⟩:=I.cell y c e;exact⟨w',z.sameBut hs (qb y c e)⟩
  .obtain⟨e,n,ne,nf,d⟩:=I.pin p hp;exact⟨(hs.2 p.1 ne).trans e,n,ne,nf,d⟩
 .have hfn:X.fn x=true:=by
   rcases hf with z | z
   .exact z
   .rw[z] at hk;cases hk
  obtain⟨c,hc⟩:=I.ok.has x (.inl hk);obtain⟨w',z⟩:=I.cell x c hc;refine wpAny_storeName_cell I.ok.kind hk hc z (λ h' hc' hs=>?_);obtain⟨oc,hoc,hocd⟩:=id z;refine h { s with heap:=h' } ⟨I.ok,I.os,I.bare,⟨λ b o e n hb hx=>?_,λ b o e n hb hx=>?_,I.base.free,λ b o e hx=>?_,I.base.uK,I.base.tN,I.base.sC⟩,⟨m,hn.sameBut hs (Ne.symm (qb x c hc)),λ j y v' e1 e2 e3=>?_⟩,λ y c' e=>?_,I.free,I.uW,λ p hp=>?_,tracked ⟨oc,hoc,I.uW x c hc⟩ hs,by simpa using I.len⟩ ⟨c,hs,.inr hc⟩
  .exact (hs.2 b (Nat.ne_of_lt (Nat.lt_of_lt_of_le (Heap.lt_size e) (I.ok.nW x c hfn hc)))).trans (I.base.keep b o e n hb hx)
  .obtain⟨sl,e1⟩:=I.base.slot b o e n hb hx;exact⟨sl,(hs.2 b (Nat.ne_of_lt (Nat.lt_of_lt_of_le (Heap.lt_size e) (I.ok.nW x c hfn hc)))).trans e1⟩
  .obtain⟨o',e1⟩:=I.base.there b o e hx;exact⟨o',(hs.2 b (Nat.ne_of_lt (Nat.lt_of_lt_of_le (Heap.lt_size e) (I.ok.nW x c hfn hc)))).trans e1⟩
  .by_cases hj:j=i
   .subst hj;rw[hi] at e1;cases e1;rw[List.getElem?_set_self hiσ] at e2;cases e2;exact⟨u,r,.inr ⟨.inl hk,c,hc,hc'⟩⟩
   .rw[List.getElem?_set_ne (Ne.symm hj)] at e2;obtain⟨u',r',q⟩:=hl j y v' e1 e2 e3;refine⟨u',r',?_⟩;rcases q with q | ⟨k,c',e,z'⟩
    .exact .inl q
    .refine .inr ⟨k,c',e,z'.sameBut hs ?_⟩;rintro rfl;exact hj (cx hN e1 (I.ok.inj _ _ _ e hc▸hi))
  .by_cases hcc:c'=c
   .subst hcc;exact⟨_,hc'⟩
   .obtain⟨w2,z2⟩:=I.cell y c' e;exact⟨w2,z2.sameBut hs hcc⟩
  .obtain⟨e,n,ne,nf,d⟩:=I.pin p hp;refine⟨(hs.2 p.1 ?_).trans e,n,ne,nf,d⟩;intro q;rw[q,hoc] at e;have q':oc=p.2:=Option.some.inj e;exact d w' (by rw[<- q'];exact hocd)
theorem jl {M:Model}{A:Around}{E:Value->Shared->Prop}{i:Nat}{x:Str}{v:V}{u:Value}{Q:Unit->Shared->Prop}(I:Inv X pins σ H s) (hN:X.N.Nodup) (hi:X.N[i]?=some x) (hx:Loc X.env.scope x) (r:RelV v u)
  (h:∀ s',Inv X pins (σ.set i (some v)) H s'->Q () s') (hf:X.fn x=true\/X.env.scope.names.lookup x=some .local:=by first | exact .inl rfl | exact .inr rfl | assumption):wpAny M A (storeName X.env x u) Q E s:=
 YW I hN hi hx r (λ s' I' _=>h s' I') hf
theorem Inv.Qb {s':Shared}{ch:List Addr}(I:Inv X pins σ H s) (ho:s'.os=s.os) (u:Un (vG X.stack) ch H H' s.heap s'.heap) (zE:xb X.prog X.w H' s'.heap) (hg:AllBare s'.gens)
  (hch:∀ b∈ch,(b∈X.ex\/X.s₀.heap.objs.size<=b)/\b≠X.env.locals/\(∀ x c,X.env.cells.lookup x=some c->c≠b)/\∀ p∈X.pn++pins,p.1≠b):Inv X pins σ H' s':=by
 obtain⟨h',g',d',t',o'⟩:=s';have e:o'=s.os:=ho;subst e;exact I.call (g':=g') (t':=t') (d':=d') u zE hg hch
end
abbrev XK:=Value->Option Addr->Hp->Prop
abbrev St:=List (Option V)
abbrev VK:=V->Hp->Prop
abbrev TE:=St->Hp->VK->Prop
abbrev TT:=St->Hp->(Bool->Hp->Prop)->Prop
abbrev TA:=St->Hp->(List V->Hp->Prop)->Prop
structure Ends where
 nx:St->Hp->Prop
 rt:VK
 bk:St->Hp->Prop:=λ _ _=>False
 ct:St->Hp->Prop:=λ _ _=>False
abbrev TS:=Ends->St->Hp->Prop
def EP (X:Cx) (pins:List (Addr×Obj)) (σ:St) (Q:VK) (u:Value) (s':Shared):Prop:=∃ v H',Inv X pins σ H' s'/\RelV v u/\Q v H'
def TP (X:Cx) (pins:List (Addr×Obj)) (σ:St) (Q:Bool->Hp->Prop) (b:Bool) (s':Shared):Prop:=∃ H',Inv X pins σ H' s'/\Q b H'
def AP (X:Cx) (pins:List (Addr×Obj)) (σ:St) (Q:List V->Hp->Prop) (us:List Value) (s':Shared):Prop:=∃ vs H',Inv X pins σ H' s'/\Vals vs us/\Q vs H'
def SP (X:Cx) (pins:List (Addr×Obj)) (D:Ends) (f:Flow) (s':Shared):Prop:=
 match f with
 | .next=>∃ σ' H',Inv X pins σ' H' s'/\D.nx σ' H'
 | .brk=>∃ σ' H',Inv X pins σ' H' s'/\D.bk σ' H'
 | .cont=>∃ σ' H',Inv X pins σ' H' s'/\D.ct σ' H'
 | .ret u=>∃ v σ' H',Inv X pins σ' H' s'/\RelV v u/\D.rt v H'
def PE (X:Cx) (e:Expr) (t:TE):Prop:=
 ∀ (pins:List (Addr×Obj)) (s:Shared) (σ:St) (H:Hp) (Q:VK),Inv X pins σ H s->t σ H Q->wpAny (model X.prog X.w) X.A (eval e X.env) (EP X pins σ Q) X.xe s
def PT (X:Cx) (e:Expr) (t:TT):Prop:=
 ∀ (pins:List (Addr×Obj)) (s:Shared) (σ:St) (H:Hp) (Q:Bool->Hp->Prop),Inv X pins σ H s->t σ H Q->wpAny (model X.prog X.w) X.A (isTrue e X.env (eval e X.env)) (TP X pins σ Q) X.xe s
def PW (X:Cx) (e:Expr) (t:TT):Prop:=
 ∀ (whole:Sem Value) (pins:List (Addr×Obj)) (s:Shared) (σ:St) (H:Hp) (Q:Bool->Hp->Prop),Inv X pins σ H s->t σ H Q->wpAny (model X.prog X.w) X.A (isTrue e X.env whole) (TP X pins σ Q) X.xe s
theorem PW.pt {X:Cx}{e:Expr}{t:TT}(h:PW X e t):PT X e t:=h _
def PA (X:Cx) (es:List Expr) (t:TA):Prop:=
 ∀ (pos:Pos) (pins:List (Addr×Obj)) (s:Shared) (σ:St) (H:Hp) (Q:List V->Hp->Prop),Inv X pins σ H s->t σ H Q->wpAny (model X.prog X.w) X.A (spliced (backTo pos (starEach es X.env))) (AP X pins σ Q) X.xe s
def PS (X:Cx) (st:Stmt) (t:TS):Prop:=
 ∀ (pins:List (Addr×Obj)) (s:Shared) (σ:St) (H:Hp) (D:Ends),Inv X pins σ H s->t D σ H->wpAny (model X.prog X.w) X.A (exec st X.env) (SP X pins D) X.xe s
def x_ (X:Cx) (st:List Stmt) (t:TS):Prop:=
 ∀ (pins:List (Addr×Obj)) (s:Shared) (σ:St) (H:Hp) (D:Ends),Inv X pins σ H s->t D σ H->wpAny (model X.prog X.w) X.A (execs st X.env) (SP X pins D) X.xe s
theorem zK {α:Type}{t:Sem α}{Q Q':α->Shared->Prop}{M:Model}{A:Around}{E:Value->Shared->Prop}{s:Shared}(h:wpAny M A t Q E s) (hQ:∀ a s,Q a s->Q' a s):wpAny M A t Q' E s:=wpAny_mono h hQ λ _ _ x=>x
end L2
namespace L2
open PySem PySem.Spec PyProof.Rows
section
variable {X:Cx}
def jg (i:Nat):TE:=fun σ H Q=>∃ v,σ[i]?=some (some v)/\Q v H
def tC (v:V):TE:=λ _ H Q=>Q v H
theorem Wz {i:Nat}{x:Str}{pos:Pos}(hN:X.N[i]?=some x) (hv:gP X.env.scope x) (hd:(x == ("__debug__":Str))=false:=by decide) (hcd:(x == ("__classdict__":Str))=false:=by decide):PE X (.Name x pos) (jg i):=by
 intro pins s σ H Q I h;obtain⟨v,e,h⟩:=h;obtain⟨m,hn,hl⟩:=I.loc;obtain⟨u,r,l⟩:=hl i x v hN e hv;have fin:EP X pins σ Q u s:=⟨v,H,I,r,h⟩
 rcases l with ⟨hk,hm⟩ | ⟨hk,c,hc,hcell⟩
 .exact wpAny_Name (wpAny_loadName_local I.ok.kind hk hn hm fin) hd
 .rcases hk with hk | hk
  .exact wpAny_Name (wpAny_loadName_cell I.ok.kind hk hc hcell fin) hd
  .exact wpAny_Name (wpAny_loadName_free I.ok.kind hk hc hcell fin hcd) hd
theorem WB {i j pos}:PE X (.Constant (.int i) j pos) (tC (.int i)):=λ _ _ _ H _ I h=>wpAny_Constant_int ⟨.int i,H,I.tok _,⟨_,rfl⟩,h⟩
theorem WN {b j pos}:PE X (.Constant (.bool b) j pos) (tC (.bl b)):=λ _ _ _ H _ I h=>Constant_bool ⟨.bl b,H,I,rfl,h⟩
theorem W7 {j pos}:PE X (.Constant .none j pos) (tC .zk):=λ _ _ _ H _ I h=>Constant_none ⟨.zk,H,I,rfl,h⟩
theorem W3 {x j pos}:PE X (.Constant (.str x) j pos) (tC (.str x)):=λ _ _ _ H _ I h=>Calls.Constant_str ⟨.str x,H,I.tok _,⟨_,rfl⟩,h⟩
def Gl (X:Cx) (x:Str):Prop:=X.env.kindOf x=some .globalImplicit
theorem cN {E:Value->Shared->Prop}{pins:List (Addr×Obj)}{s:Shared}{σ:St}{H:Hp}{x:Str}{u:Value}{pos:Pos}{Q:Value->Shared->Prop}(I:Inv X pins σ H s) (hg:Gl X x) (hm:X.mg x=some u) (h:Q u s)
  (hd:(x == ("__debug__":Str))=false:=by decide):wpAny (model X.prog X.w) X.A (eval (.Name x pos) X.env) Q E s:=
 Calls.Name_function_global I.ok.kind hg (Calls.loadGlobal_global (by rw[I.ok.glob];exact I.mod.glob.keeps I.bk) hm h) hd
theorem qT {E:Value->Shared->Prop}{pins:List (Addr×Obj)}{s:Shared}{σ:St}{H:Hp}{x:Str}{u:Value}{pos:Pos}{Q:Value->Shared->Prop}(I:Inv X pins σ H s) (hg:Gl X x) (hm:X.mg x=none) (hv:bootBuiltins x=some u) (h:Q u s)
  (hn:x≠"__name__":=by decide) (hd:(x == ("__debug__":Str))=false:=by decide):wpAny (model X.prog X.w) X.A (eval (.Name x pos) X.env) Q E s:=by
 obtain⟨mb,h1,h2⟩:=I.mod.blt;exact Calls.Name_function_global I.ok.kind hg (Calls.loadGlobal_builtin (by rw[I.ok.glob];exact I.mod.glob.keeps I.bk) hm (by rw[I.ok.blt];exact h1.keeps I.bk) ((h2 x hn).trans hv) h) hd
theorem WD {x:Str}{v:V}{u:Value}{pos:Pos}(hg:Gl X x) (hm:X.mg x=some u) (r:RelV v u) (hd:(x == ("__debug__":Str))=false:=by decide):PE X (.Name x pos) (tC v):=
 λ _ _ _ H _ I h=>cN I hg hm ⟨v,H,I,r,h⟩ hd
theorem WM {x:Str}{v:V}{u:Value}{pos:Pos}(hg:Gl X x) (hm:X.mg x=none) (hv:bootBuiltins x=some u) (r:RelV v u) (hn:x≠"__name__":=by decide) (hd:(x == ("__debug__":Str))=false:=by decide):PE X (.Name x pos) (tC v):=
 λ _ _ _ H _ I h=>qT I hg hm hv ⟨v,H,I,r,h⟩ hn hd
variable {a b:Expr}{ta tb:TE}{pos:Pos}
variable {tA tB':TT}{rest:List Expr}
def YU (t u:TT):TT:=fun σ H Q=>t σ H λ c H1=>if c=true then u σ H1 Q else Q false H1
def YG (t u:TT):TT:=fun σ H Q=>t σ H λ c H1=>if c=true then Q true H1 else u σ H1 Q
def YI (t:TT):TT:=fun σ H Q=>t σ H λ c H1=>Q (!c) H1
theorem XJ (ha:PT X a tA):PW X (.BoolOp .And [a] pos) tA:=by
 intro wh pins s σ H Q I h;refine isTrue_and (zK (ha pins s σ H Q I h) λ c s1 e=>?_);cases c with
 | true=>exact isTrue_and_nil e
 | false=>exact e
theorem XH (ha:PT X a tA):PW X (.BoolOp .Or [a] pos) tA:=by
 intro wh pins s σ H Q I h;refine isTrue_or (zK (ha pins s σ H Q I h) λ c s1 e=>?_);cases c with
 | false=>exact isTrue_or_nil e
 | true=>exact e
theorem XM (ha:PT X a tA) (hb:PW X (.BoolOp .And (b::rest) pos) tB'):PW X (.BoolOp .And (a::b::rest) pos) (YU tA tB'):=by
 intro wh pins s σ H Q I h;refine isTrue_and (zK (ha pins s σ H _ I h) λ c s1 ⟨H1,I1,q1⟩=>?_);cases c with
 | true=>exact hb wh pins s1 σ H1 Q I1 q1
 | false=>exact⟨H1,I1,q1⟩
theorem XI (ha:PT X a tA) (hb:PW X (.BoolOp .Or (b::rest) pos) tB'):PW X (.BoolOp .Or (a::b::rest) pos) (YG tA tB'):=by
 intro wh pins s σ H Q I h;refine isTrue_or (zK (ha pins s σ H _ I h) λ c s1 ⟨H1,I1,q1⟩=>?_);cases c with
 | true=>exact⟨H1,I1,q1⟩
 | false=>exact hb wh pins s1 σ H1 Q I1 q1
theorem XR (ha:PT X a tA):PT X (.UnaryOp .Not a pos) (YI tA):=by
 intro pins s σ H Q I h;exact isTrue_not (ha pins s σ H (λ c H1=>Q (!c) H1) I h)
def YT (ta tb:TE):TE:=fun σ H Q=>ta σ H λ x H1=>∃ c,x=.bl c/\if c=true then tb σ H1 Q else Q (.bl false) H1
def YH (ta:TE):TE:=fun σ H Q=>ta σ H λ x H1=>∃ c,x=.bl c/\Q (.bl (!c)) H1
theorem W5 {op} {t:TE}(h:PE X a t):PE X (.BoolOp op [a] pos) t:=λ pins s σ H Q I hw=>BoolOp_one (h pins s σ H Q I hw)
theorem WO (ha:PE X a ta) (hb:PE X (.BoolOp .And (b::rest) pos) tb):PE X (.BoolOp .And (a::b::rest) pos) (YT ta tb):=by
 intro pins s σ H Q I h;refine BoolOp_and (zK (ha pins s σ H _ I h) λ v s1 ⟨x,H1,I1,r1,q1⟩=>?_);obtain⟨c,rfl,q1⟩:=q1;cases r1;refine wpAny_truthy_bool ?_;cases c with
 | true=>exact hb pins s1 σ H1 Q I1 q1
 | false=>exact⟨.bl false,H1,I1,rfl,q1⟩
theorem W6 (ha:PE X a ta):PE X (.UnaryOp .Not a pos) (YH ta):=by
 intro pins s σ H Q I h;refine UnaryOp_ (zK (ha pins s σ H _ I h) λ v s1 ⟨x,H1,I1,r1,q1⟩=>?_);obtain⟨c,rfl,q1⟩:=q1;cases r1;exact not_of (wpAny_truthy_bool ⟨.bl (!c),H1,I1,rfl,q1⟩)
def YM (t:TT) (ta tb:TE):TE:=fun σ H Q=>t σ H λ c H1=>if c=true then ta σ H1 Q else tb σ H1 Q
theorem WC {c:Expr}(hc:PT X c tA) (ha:PE X a ta) (hb:PE X b tb):PE X (.IfExp c a b pos) (YM tA ta tb):=by
 intro pins s σ H Q I h;refine wpAny_IfExp (zK (hc pins s σ H _ I h) λ d s1 ⟨H1,I1,q1⟩=>?_);cases d with
 | true=>exact ha pins s1 σ H1 Q I1 q1
 | false=>exact hb pins s1 σ H1 Q I1 q1
end
end L2
namespace L2
open PySem PySem.Spec PyProof.Rows
def zQ (K:PySem.W.Frag) (H:Hp) (a:Addr) (xs:List V):Prop:=
 Rd H a (.lst xs)\/
  ∃ (o:Obj) (its:Array Value) (n:Nat),K.lookup a=some o/\o.cls=.type "list"/\o.dict=none/\o.data=.seq its n/\its.size<=sizeLine/\Vals xs its.toList
def yb (K:PySem.W.Frag) (H:Hp) (a:Addr) (xs:List V):Prop:=
 Rd H a (.tup xs)\/
  ∃ (o:Obj) (its:Array Value) (n:Nat),K.lookup a=some o/\o.cls=.type "tuple"/\o.data=.seq its n/\its.size<=sizeLine/\Vals xs its.toList
noncomputable def Qt:Value->Option V
 | .none=>some .zk
 | .bool b=>some (.bl b)
 | .int i _=>some (.int i)
 | .str x _=>some (.str x)
 | .bytes b _=>some (.pC b)
 | .float b _=>some (.l_ b)
 | .ref a=>some (.ref a)
 | .type n=>some (.ty n)
 | _=>none
theorem RelV.abs {x:V}{u:Value}(r:RelV x u):Qt u=some x:=by
 cases x with
 | zk=>cases r;rfl
 | bl _=>cases r;rfl
 | int _=>obtain⟨t,rfl⟩:=r;rfl
 | str _=>obtain⟨t,rfl⟩:=r;rfl
 | pC _=>obtain⟨t,rfl⟩:=r;rfl
 | l_ _=>obtain⟨t,rfl⟩:=r;rfl
 | ref _=>cases r;rfl
 | ty _=>cases r;rfl
theorem RelV.inj {x y:V}{u:Value}(r:RelV x u) (q:RelV y u):x=y:=Option.some.inj (r.abs.symm.trans q.abs)
theorem Vals.inj:∀ {xs ys:List V}{us:List Value},Vals xs us->Vals ys us->xs=ys
 | _,_,_,.nil,.nil=>rfl
 | _,_,_,.cons r t,.cons r' t'=>by rw[r.inj r',Vals.inj t t']
section
variable {X:Cx}{pins:List (Addr×Obj)}{σ:St}{H:Hp}{s:Shared}{a:Addr}{xs ys:List V}
theorem zQ.of {K:PySem.W.Frag}(h:H a=some (.lst xs)):zQ K H a xs:=.inl (.inl h)
theorem yb.of {K:PySem.W.Frag}(h:H a=some (.tup xs)):yb K H a xs:=.inl (.inl h)
theorem Inv.list (I:Inv X pins σ H s) (h:zQ X.K H a xs):∃ its:List Value,Vals xs its/\PlainL s.heap a its.toArray/\xs.length<=sizeLine:=by
 rcases h with h | ⟨o,its,n,hk,hc,hd,hs,hz,r⟩
 .obtain⟨z,its,n,r,e⟩:=h.ok I.zE;exact⟨its,r,⟨_,n,e,rfl,rfl,rfl⟩,z⟩
 .refine⟨its.toList,r,⟨o,n,I.vB a o hk,hc,hd,by simpa using hs⟩,?_⟩;have e:=r.length;simp only[Array.length_toList] at e;omega
theorem Inv.tuple (I:Inv X pins σ H s) (h:yb X.K H a xs):∃ its:List Value,Vals xs its/\IsTup s.heap a its.toArray/\xs.length<=sizeLine:=by
 rcases h with h | ⟨o,its,n,hk,hc,hs,hz,r⟩
 .obtain⟨z,its,r,p⟩:=h.ok I.zE;exact⟨its,r,p,z⟩
 .refine⟨its.toList,r,⟨o,I.vB a o hk,hc,n,by simpa using hs⟩,?_⟩;have e:=r.length;simp only[Array.length_toList] at e;omega
theorem Inv.iQ (I:Inv X pins σ H s) (h:zQ X.K H a xs) (h':zQ X.K H a ys):xs=ys:=by
 obtain⟨its,r,⟨o,n,e,_,_,d⟩,_⟩:=I.list h;obtain⟨its',r',⟨o',n',e',_,_,d'⟩,_⟩:=I.list h';rw[e] at e';cases e';rw[d] at d'
 injection d' with d1 _
 have:its=its':=by simpa using congrArg Array.toList d1
 subst this;exact r.inj r'
theorem Inv.je (I:Inv X pins σ H s) (h:yb X.K H a xs) (h':yb X.K H a ys):xs=ys:=by
 obtain⟨its,r,⟨o,e,_,n,d⟩,_⟩:=I.tuple h;obtain⟨its',r',⟨o',e',_,n',d'⟩,_⟩:=I.tuple h';rw[e] at e';cases e';rw[d] at d'
 injection d' with d1 _
 have:its=its':=by simpa using congrArg Array.toList d1
 subst this;exact r.inj r'
end
abbrev Cx.uH (X:Cx) (E:Value->Shared->Prop):Cx:={ X with xe:=E }
abbrev Cx.tJ (X:Cx):Cx:=X.uH λ _ _=>False
theorem Cx.Ok.uH {X:Cx}(ok:X.Ok) (E:Value->Shared->Prop):(X.uH E).Ok:=
 ⟨ok.mod,ok.kind,ok.glob,ok.blt,ok.above,ok.inj,ok.has,ok.nW,ok.hd,ok.frames,ok.mR,ok.gr,ok.bs,ok.qc,ok.oQ,ok.nD,ok.u9,ok.pz⟩
theorem Cx.Ok.su {X:Cx}{E:Value->Shared->Prop}(ok:(X.uH E).Ok):X.Ok:=
 ⟨ok.mod,ok.kind,ok.glob,ok.blt,ok.above,ok.inj,ok.has,ok.nW,ok.hd,ok.frames,ok.mR,ok.gr,ok.bs,ok.qc,ok.oQ,ok.nD,ok.u9,ok.pz⟩
section
variable {X:Cx}{pins:List (Addr×Obj)}{σ:St}{H:Hp}{s:Shared}{E:Value->Shared->Prop}
theorem Inv.uH (I:Inv X pins σ H s) (E:Value->Shared->Prop):Inv (X.uH E) pins σ H s:=⟨I.ok.uH E,I.os,I.bare,I.base,I.loc,I.cell,I.free,I.uW,I.pin,I.zE,I.len⟩
theorem Inv.su (I:Inv (X.uH E) pins σ H s):Inv X pins σ H s:=⟨I.ok.su,I.os,I.bare,I.base,I.loc,I.cell,I.free,I.uW,I.pin,I.zE,I.len⟩
theorem SP.su {D:Ends}{f:Flow}{s':Shared}(h:SP (X.uH E) pins D f s'):SP X pins D f s':=by
 cases f with
 | next=>obtain⟨σ',H',I,q⟩:=h;exact⟨σ',H',I.su,q⟩
 | brk=>obtain⟨σ',H',I,q⟩:=h;exact⟨σ',H',I.su,q⟩
 | cont=>obtain⟨σ',H',I,q⟩:=h;exact⟨σ',H',I.su,q⟩
 | ret u=>obtain⟨v,σ',H',I,r,q⟩:=h;exact⟨v,σ',H',I.su,r,q⟩
theorem x_.tJ {st:List Stmt}{t:TS}(h:x_ X.tJ st t):x_ X st t:=λ pins s σ H D I hw=>
 wpAny_mono (h pins s σ H D (I.uH _) hw) (λ _ _ q=>q.su) λ _ _ z=>False.elim z
end
section
variable {X:Cx}{st:Stmt}{rest:List Stmt}{t u:TS}{e:Expr}{te:TE}{pos:Pos}
def YJ:TS:=λ D σ H=>D.nx σ H
def YE (t u:TS):TS:=λ D σ H=>t { D with nx:=u D } σ H
theorem XU:x_ X [] YJ:=λ _ _ σ H _ I h=>wpAny_execs_nil ⟨σ,H,I,h⟩
theorem XW (h1:PS X st t) (h2:x_ X rest u):x_ X (st::rest) (YE t u):=by
 intro pins s σ H D I h;refine wpAny_execs_cons (zK (h1 pins s σ H { D with nx:=u D } I h) λ f s1 q=>?_);cases f with
 | next=>
  obtain⟨σ',H',I',q⟩:=q;exact h2 pins s1 σ' H' D I' q
 | ret v=>exact q
 | brk=>exact q
 | cont=>exact q
theorem XT (h1:PS X st t):x_ X [st] t:=by
 intro pins s σ H D I h;refine wpAny_execs_cons (zK (h1 pins s σ H D I h) λ f s1 q=>?_);cases f with
 | next=>exact wpAny_execs_nil q
 | ret v=>exact q
 | brk=>exact q
 | cont=>exact q
theorem Inv.quiet {pins:List (Addr×Obj)}{σ:St}{H:Hp}{s:Shared}(I:Inv X pins σ H s):interactive X.env=false:=by simp[interactive,I.ok.kind]
def YO (te:TE):TS:=λ D σ H=>te σ H λ _ H1=>D.nx σ H1
theorem Wc (he:PE X e te) (hs:swapsWith e none pos.line X.env=pure false:=by rfl):PS X (.Expr e pos) (YO te):=by
 intro pins s σ H D I h;exact wpAny_Expr_any (zK (he pins s σ H _ I h) λ v s1 ⟨x,H1,I1,r1,q1⟩=>⟨σ,H1,I1,q1⟩) I.quiet hs
def YF (te:TE):TS:=λ D σ H=>te σ H D.rt
theorem X_ (he:PE X e te):PS X (.Return (some e) pos) (YF te):=by
 intro pins s σ H D I h;exact wpAny_Return_some (zK (he pins s σ H _ I h) λ v s1 ⟨x,H1,I1,r1,q1⟩=>⟨x,σ,H1,I1,r1,q1⟩)
def YL (c:TT) (t u:TS):TS:=λ D σ H=>c σ H λ b H1=>if b=true then t D σ H1 else u D σ H1
theorem Wa {c:Expr}{a b:List Stmt}{tc:TT}(hc:PT X c tc) (ha:x_ X a t) (hb:x_ X b u):PS X (.If c a b pos) (YL tc t u):=by
 intro pins s σ H D I h;refine wpAny_If (zK (hc pins s σ H _ I h) λ d s1 ⟨H1,I1,q1⟩=>?_);cases d with
 | true=>exact ha pins s1 σ H1 D I1 q1
 | false=>exact hb pins s1 σ H1 D I1 q1
end
abbrev TG:=V->St->Hp->(St->Hp->Prop)->Prop
abbrev tV:=List V->St->Hp->(St->Hp->Prop)->Prop
def PG (X:Cx) (target:Expr) (t:TG):Prop:=
 ∀ (pins:List (Addr×Obj)) (s:Shared) (σ:St) (H:Hp) (v:V) (u:Value) (Q:St->Hp->Prop),Inv X pins σ H s->RelV v u->t v σ H Q->
  wpAny (model X.prog X.w) X.A (assign target X.env u) (λ _ s'=>∃ σ' H',Inv X pins σ' H' s'/\Q σ' H') X.xe s
def tu (X:Cx) (ts:List Expr) (t:tV):Prop:=
 ∀ (pins:List (Addr×Obj)) (s:Shared) (σ:St) (H:Hp) (vs:List V) (us:List Value) (Q:St->Hp->Prop),Inv X pins σ H s->Vals vs us->t vs σ H Q->
  wpAny (model X.prog X.w) X.A (assignInOrder ((assignEach ts X.env).map (·.2)) us) (λ _ s'=>∃ σ' H',Inv X pins σ' H' s'/\Q σ' H') X.xe s
abbrev gS:=V->V->V->Hp->(Hp->Prop)->Prop
def Ze (X:Cx) (t:gS):Prop:=
 ∀ (pins:List (Addr×Obj)) (s:Shared) (σ:St) (H:Hp) (o i v:V) (ov iv u:Value) (Q:Hp->Prop),Inv X pins σ H s->RelV o ov->RelV i iv->RelV v u->t o i v H Q->
  wpAny (model X.prog X.w) X.A (setItem ov iv u) (λ _ s'=>∃ H',Inv X pins σ H' s'/\Q H') X.xe s
section
variable {X:Cx}{pos:Pos}
noncomputable def px (i:Nat):TG:=λ v σ H Q=>Q (σ.set i (some v)) H
theorem Wu {i:Nat}{x:Str}(hN:X.N.Nodup) (hi:X.N[i]?=some x) (hx:Loc X.env.scope x) (hf:X.fn x=true\/X.env.scope.names.lookup x=some .local:=by first | exact .inl rfl | exact .inr rfl | assumption):PG X (.Name x pos) (px i):=by
 intro pins s σ H v u Q I r h;exact wpAny_assign_Name (jl I hN hi hx r (λ s' I'=>⟨_,H,I',h⟩) hf)
noncomputable def S8:tV:=λ vs σ H Q=>vs=[]/\Q σ H
noncomputable def S9 (t:TG) (u:tV):tV:=λ vs σ H Q=>∃ v r,vs=v::r/\t v σ H fun σ' H'=>u r σ' H' Q
theorem Wq:tu X [] S8:=by
 intro pins s σ H vs us Q I r h;obtain⟨e,h⟩:=h;subst e;cases r;exact assignInOrder_nil ⟨σ,H,I,h⟩
theorem Wr {e:Expr}{es:List Expr}{t:TG}{u:tV}(h1:PG X e t) (h2:tu X es u)
  (hs:(assignEach (e::es) X.env).map (·.2)=assign e X.env::(assignEach es X.env).map (·.2):=by rfl):tu X (e::es) (S9 t u):=by
 intro pins s σ H vs us Q I r h;obtain⟨v,vr,e1,h⟩:=h;subst e1;cases r with
 | cons r rr=>
  rw[hs];refine assignInOrder_cons (zK (h1 pins s σ H _ _ _ I r h) λ _ s1 ⟨σ1,H1,I1,q1⟩=>?_);exact h2 pins s1 σ1 H1 _ _ Q I1 rr q1
noncomputable def bD (K:PySem.W.Frag) (n:Nat) (t:tV):TG:=λ v σ H Q=>∃ a xs,v=.ref a/\yb K H a xs/\xs.length=n/\t xs σ H Q
theorem Ws {es:List Expr}{k:Nat}{t:tV}{n:Nat}(hc:X.calm=true) (h:tu X es t)
  (hn:(assignEach es X.env).length=n:=by rfl) (hst:(assignEach es X.env).findIdx? (·.1)=none:=by rfl):PG X (.Tuple es k pos) (bD X.K n t):=by
 intro pins s σ H v u Q I r hw;obtain⟨a,xs,e1,hq,hl,hw⟩:=hw;subst e1;cases r;obtain⟨its,rv,ht,hz⟩:=I.tuple hq;refine assign_Tuple_tuple (I.ok.hd hc) ht (by simp[hn,<- hl,rv.length]) hst λ h' hx=>?_;have I1:Inv X pins σ H { s with heap:=h' }:=I.kept (t':=s.toks) λ b o e=>hx b o (Nat.ne_of_lt (Heap.lt_size e)) e;exact h pins _ σ H xs _ Q I1 (by simpa using rv) hw
noncomputable def S7 (to ti:TE) (t:gS):TG:=λ v σ H Q=>to σ H λ o H1=>ti σ H1 λ i H2=>t o i v H2 λ H3=>Q σ H3
theorem Wt {o i:Expr}{to ti:TE}{t:gS}(ho:PE X o to) (hi:PE X i ti) (hs:Ze X t)
  (ha:∀ v,assign (.Subscript o i pos) X.env v=(do
   let ov <- holding [v] (eval o X.env)
   let iv <- holding [v,ov] (eval i X.env)
   standAt pos
   holding [v,ov,iv] (setItem ov iv v)
   release [v,ov,iv] []):=by intro _;rfl):PG X (.Subscript o i pos) (S7 to ti t):=by
 intro pins s σ H v u Q I r h;rw[ha];refine zWb (wpAny_holding (zK (ho pins s σ H _ I h) λ ov s1 ⟨x,H1,I1,r1,q1⟩=>?_));refine zWb (wpAny_holding (zK (hi pins s1 σ H1 _ I1 q1) λ iv s2 ⟨y,H2,I2,r2,q2⟩=>?_));refine zWb (wpAny_standAt (zWb (wpAny_holding (zK (hs pins s2 σ H2 x y v ov iv u _ I2 r1 r2 r q2) λ _ s3 ⟨H3,I3,q3⟩=>?_))));exact wpAny_release ⟨σ,H3,I3,q3⟩
def oa (te:TE) (g:TG):TS:=λ D σ H=>te σ H λ x H1=>g x σ H1 D.nx
theorem dA {tg e:Expr}{te:TE}{g:TG}(he:PE X e te) (hg:PG X tg g) (hs:swapsWithSole [tg] e pos.line X.env=pure false:=by rfl) (hw:swappedStores [tg] e X.env=pure none:=by rfl)
  (h1:(assignEach [tg] X.env).map (·.2)=[assign tg X.env]:=by rfl):PS X (.Assign [tg] e pos) (oa te g):=by
 intro pins s σ H D I h;refine wpAny_Assign_stores (zK (he pins s σ H _ I h) λ v s1 ⟨x,H1,I1,r1,q1⟩=>?_) hs hw;rw[h1];exact zK (hg pins s1 σ H1 x v _ I1 r1 q1) λ _ s2 q=>q
theorem XZ {i:Nat}{x:Str}{e:Expr}{te:TE}{pos':Pos}(hN:X.N.Nodup) (hi:X.N[i]?=some x) (hx:Loc X.env.scope x) (he:PE X e te) (hs:swapsWith e (some (.Name x pos')) pos.line X.env=pure false:=by rfl) (hf:X.fn x=true\/X.env.scope.names.lookup x=some .local:=by first | exact .inl rfl | exact .inr rfl | assumption):
  PS X (.Assign [.Name x pos'] e pos) (oa te (px i)):=by
 intro pins s σ H D I h;refine wpAny_Assign_Name (zK (he pins s σ H _ I h) λ v s1 ⟨y,H1,I1,r1,q1⟩=>?_) hs;exact jl I1 hN hi hx r1 (λ s2 I2=>⟨_,H1,I2,q1⟩) hf
end
section
variable {X:Cx}{pos:Pos}
def YA (c:TT) (tb:TS):TS:=λ D σ H=>∃ W:Nat->St->Hp->Prop,(∃ m,W m σ H)/\∀ m σ H,W m σ H->
 c σ H λ b H1=>if b=true then ∃ N:St->Hp->Prop,(∀ σ' H',N σ' H'->∃ m',m'<m/\W m' σ' H')/\tb { D with nx:=N,ct:=N,bk:=D.nx } σ H1 else D.nx σ H1
theorem XX {c:Expr}{body:List Stmt}{tc:TT}{tb:TS}(hp:PassesOwn (model X.prog X.w) X.A X.env X.xe) (hc:PT X c tc) (hb:x_ X body tb):PS X (.While c body [] pos) (YA tc tb):=by
 intro pins s σ H D I h;obtain⟨W,⟨m0,w0⟩,turn⟩:=h;refine wpAny_While (codeAny_whileLoop (λ n s'=>∃ σ' H',Inv X pins σ' H' s'/\W n σ' H') ?_ m0 ⟨σ,H,I,w0⟩);rintro n s1 ⟨σ1,H1,I1,w1⟩;refine wpAny_passesOwn hp (zK (hc pins s1 σ1 H1 _ I1 (turn n σ1 H1 w1)) λ b s2 ⟨H2,I2,q2⟩=>?_);cases b with
 | true=>
  obtain⟨N,hN,q2⟩:=q2;rw[if_pos rfl];refine wpAny_passesOwn hp (zK (hb pins s2 σ1 H2 _ I2 q2) λ f s3 q3=>?_);cases f with
  | next=>
   obtain⟨σ3,H3,I3,n3⟩:=q3;obtain⟨m',hm,w3⟩:=hN σ3 H3 n3;exact⟨m',hm,σ3,H3,I3,w3⟩
  | cont=>
   obtain⟨σ3,H3,I3,n3⟩:=q3;obtain⟨m',hm,w3⟩:=hN σ3 H3 n3;exact⟨m',hm,σ3,H3,I3,w3⟩
  | brk=>exact q3
  | ret v=>exact q3
 | false=>
  rw[if_neg Bool.false_ne_true];exact wpAny_execs_nil ⟨σ1,H2,I2,q2⟩
end
structure It where
 go:Nat->Hp->Prop
 qx:Nat->Hp->V->Hp->Prop
 stop:Nat->Hp->Prop
def vT (X:Cx) (pins:List (Addr×Obj)) (H:Hp) (b:Addr):Prop:=
 H b=none/\b≠X.env.locals/\b∉X.fs/\(b∈X.ex\/X.s₀.heap.objs.size<=b)/\(∀ x c,X.env.cells.lookup x=some c->c≠b)/\∀ p∈X.pn++pins,p.1≠b
theorem Inv.lZ {X:Cx}{pins:List (Addr×Obj)}{σ:St}{H H':Hp}{s:Shared}{b:Addr}(I:Inv X pins σ H s) (hb:s.heap.objs.size<=b) (hn:H' b=none):vT X pins H' b:=by
 refine⟨hn,Nat.ne_of_gt (Nat.lt_of_lt_of_le I.lt hb),I.cv hb,.inr (Nat.le_trans I.sz hb),λ x c e z=>?_,λ p hp z=>?_⟩
 .obtain⟨v,q⟩:=I.cell x c e;exact absurd (Nat.lt_of_lt_of_le q.lt (by rw[z];exact hb)) (Nat.lt_irrefl _)
 .exact absurd (Nat.lt_of_lt_of_le (Heap.lt_size (I.pin p hp).1) (by rw[z];exact hb)) (Nat.lt_irrefl _)
structure Turn (P:Program) (w:World) (K:PySem.W.Frag) (tg:Expr) (J:It) (fp:List Addr) (it:Addr) (tn:Nat->Heap->Prop):Prop where
 mem:it∈fp
 obj:∀ i h,tn i h->∀ b∈fp,∃ o,h.get? b=some o/\∀ v,o.data≠.cell v
 keep:∀ i h h',tn i h->(∀ b∈fp,∀ o,h.get? b=some o->h'.get? b=some o)->tn i h'
 item:∀ (X:Cx),X.prog=P->X.w=w->X.K=K->X.calm=true->∀ (i:Nat) (pins:List (Addr×Obj)) (s:Shared) (σ:St) (H:Hp) (E:Value->Shared->Prop),Inv X pins σ H s->(∀ b∈fp,vT X pins H b)->tn i s.heap->J.go i H->
  wpAny (model P w) X.A (pyNext (.ref it)) (λ r s1=>∃ u,r=some u/\
   wpAny (model P w) X.A (letOwnedTupleGo tg (.ref it) u) (λ _ s2=>∃ x H',Inv X pins σ H' s2/\RelV x u/\J.qx i H x H'/\tn (i+1) s2.heap/\∀ b∈fp,H' b=none) E s1) E s
 done:∀ (X:Cx),X.prog=P->X.w=w->X.K=K->X.calm=true->∀ (i:Nat) (pins:List (Addr×Obj)) (s:Shared) (σ:St) (H:Hp) (E:Value->Shared->Prop),Inv X pins σ H s->(∀ b∈fp,vT X pins H b)->tn i s.heap->J.stop i H->
  wpAny (model P w) X.A (pyNext (.ref it)) (λ r s1=>r=none/\Inv X pins σ H s1) E s
 self:∀ (A:Around) (i:Nat) (s:Shared) (Q:Value->Shared->Prop) (E:Value->Shared->Prop),tn i s.heap->Q (.ref it) s->wpAny (model P w) A (pyIter (.ref it)) Q E s
abbrev TI:=St->Hp->(It->Hp->Prop)->Prop
def Zf (X:Cx) (pins:List (Addr×Obj)) (σ:St) (tg:Expr) (R:It->Hp->Prop) (itv:Value) (s2:Shared):Prop:=
 ∃ (it:Addr) (fp:List Addr) (tn:Nat->Heap->Prop) (J:It) (H':Hp),itv=.ref it/\Inv X pins σ H' s2/\Turn X.prog X.w X.K tg J fp it tn/\tn 0 s2.heap/\(∀ b∈fp,vT X pins H' b)/\R J H'
def PI (X:Cx) (tg iter:Expr) (wi:TI):Prop:=
 ∀ (pins:List (Addr×Obj)) (s:Shared) (σ:St) (H:Hp) (R:It->Hp->Prop),Inv X pins σ H s->wi σ H R->
  wpAny (model X.prog X.w) X.A (eval iter X.env) (λ v s1=>wpAny (model X.prog X.w) X.A (pyIter v) (Zf X pins σ tg R) X.xe s1) X.xe s
theorem gf {M:Model}{A:Around}{E:Value->Shared->Prop}{s:Shared}{tg:Expr}{it:Addr}{u:Value}{o:Obj}{n:String}{vs:Array Value}{Q:Unit->Shared->Prop}(ho:s.heap.get? it=some o) (hc:o.cls=.type n) (hd:o.data=.fields vs)
  (hn:["enumerate","zip","dict_itemiterator","dict_reverseitemiterator","odict_iterator","itertools.zip_longest","itertools.pairwise"].contains n=false) (hQ:Q () s):wpAny M A (letOwnedTupleGo tg (.ref it) u) Q E s:=by
 unfold letOwnedTupleGo;cases tg <;> first
  | exact wpAny_pure hQ
  | (cases u <;> first
    | exact wpAny_pure hQ
    | (refine zWb (wpAny_load ho ?_)
       rw[hc,hd];show wpAny M A (if (["enumerate","zip","dict_itemiterator","dict_reverseitemiterator","odict_iterator","itertools.zip_longest","itertools.pairwise"].contains n&&vs[0]? == some (rawInt _))=true then _ else _) Q E s;rw[if_neg (by intro h;rw[hn,Bool.false_and] at h;cases h)];exact wpAny_pure hQ))
def Zk (K:PySem.W.Frag) (a:Addr):It:=
 ⟨λ i H=>∃ xs x,zQ K H a xs/\xs[i]?=some x,λ i H x H'=>H'=H/\∀ xs,zQ K H a xs->xs[i]?=some x,λ i H=>∃ xs,zQ K H a xs/\xs.length<=i⟩
def Zj (K:PySem.W.Frag) (a:Addr):It:=
 ⟨λ i H=>∃ xs x,yb K H a xs/\xs[i]?=some x,λ i H x H'=>H'=H/\∀ xs,yb K H a xs->xs[i]?=some x,λ i H=>∃ xs,yb K H a xs/\xs.length<=i⟩
def kM (lo:Int) (n:Nat):It:=⟨λ i _=>i<n,λ i H x H'=>H'=H/\x=.int (lo+i),λ i _=>n<=i⟩
theorem Y4 {P:Program}{w:World}{K:PySem.W.Frag}{tg:Expr}(a it:Addr):Turn P w K tg (Zk K a) [it] it (λ i h=>h.IsListIter it a i) where
 mem:=by simp
 obj:=λ i h st b hb=>by
  have e:b=it:=by simpa using hb
  subst e;obtain⟨o,e,c,d⟩:=st;exact⟨o,e,λ v z=>by rw[d] at z;cases z⟩
 keep:=λ i h h' st k=>st.at λ o e=>k it (by simp) o e
 item:=by
  intro X hP hw hK hc i pins s σ H E I hf st hg;subst hP hw hK;obtain⟨xs,x,hq,hx⟩:=hg;obtain⟨its,rv,p,hz⟩:=I.list hq;obtain⟨u,hu,ru⟩:=rv.get hx;obtain⟨f0,f1,f2,f3,f4,f5⟩:=hf it (by simp);refine wpAny_pyNext_list_item st p.isList (x:=u) (by simpa using hu) λ h' st' sb=>?_;have I1:Inv X pins σ H { s with heap:=h' }:=I.turned (t':=s.toks) (λ b o hb e=>(sb.2 b hb).trans e) f0 f1 f3 f4 f5;obtain⟨o,e,c,d⟩:=id st';exact⟨u,rfl,gf (s:={ s with heap:=h' }) e c d (by decide) ⟨x,H,I1,ru,⟨rfl,λ ys hy=>by rw[I.iQ hy hq];exact hx⟩,st',λ b hb=>(hf b hb).1⟩⟩
 done:=by
  intro X hP hw hK hc i pins s σ H E I hf st hg;subst hP hw hK;obtain⟨xs,hq,hx⟩:=hg;obtain⟨its,rv,p,hz⟩:=I.list hq;obtain⟨f0,f1,f2,f3,f4,f5⟩:=hf it (by simp);have hl:=rv.length;exact wpAny_pyNext_list_end (I.ok.hd hc) st p.isList (by simp;omega) λ h' eb=>⟨rfl,I.turned (t':=s.toks) (λ b o hb e=>eb b o hb e) f0 f1 f3 f4 f5⟩
 self:=λ _ _ _ _ _ st h=>wpAny_pyIter_listiter st h
theorem Y2 {P:Program}{w:World}{K:PySem.W.Frag}{tg:Expr}(a it:Addr):Turn P w K tg (Zj K a) [it] it (λ i h=>h.IsTupleIter it a i) where
 mem:=by simp
 obj:=λ i h st b hb=>by
  have e:b=it:=by simpa using hb
  subst e;obtain⟨o,e,c,d⟩:=st;exact⟨o,e,λ v z=>by rw[d] at z;cases z⟩
 keep:=λ i h h' st k=>st.at λ o e=>k it (by simp) o e
 item:=by
  intro X hP hw hK hc i pins s σ H E I hf st hg;subst hP hw hK;obtain⟨xs,x,hq,hx⟩:=hg;obtain⟨its,rv,p,hz⟩:=I.tuple hq;obtain⟨u,hu,ru⟩:=rv.get hx;obtain⟨f0,f1,f2,f3,f4,f5⟩:=hf it (by simp);refine wpAny_pyNext_tuple_item st (show s.heap.IsTuple a its.toArray from p) (x:=u) (by simpa using hu) λ h' st' sb=>?_;have I1:Inv X pins σ H { s with heap:=h' }:=I.turned (t':=s.toks) (λ b o hb e=>(sb.2 b hb).trans e) f0 f1 f3 f4 f5;obtain⟨o,e,c,d⟩:=id st';exact⟨u,rfl,gf (s:={ s with heap:=h' }) e c d (by decide) ⟨x,H,I1,ru,⟨rfl,λ ys hy=>by rw[I.je hy hq];exact hx⟩,st',λ b hb=>(hf b hb).1⟩⟩
 done:=by
  intro X hP hw hK hc i pins s σ H E I hf st hg;subst hP hw hK;obtain⟨xs,hq,hx⟩:=hg;obtain⟨its,rv,p,hz⟩:=I.tuple hq;obtain⟨f0,f1,f2,f3,f4,f5⟩:=hf it (by simp);have hl:=rv.length;exact wpAny_pyNext_tuple_end (I.ok.hd hc) st (show s.heap.IsTuple a its.toArray from p) (by simp;omega) λ h' eb=>⟨rfl,I.turned (t':=s.toks) (λ b o hb e=>eb b o hb e) f0 f1 f3 f4 f5⟩
 self:=λ _ _ _ _ _ st h=>wpAny_pyIter_tupleiter st h
theorem Y3 {P:Program}{w:World}{K:PySem.W.Frag}{tg:Expr}(it:Addr) (lo:Int) (n:Nat):Turn P w K tg (kM lo n) [it] it (λ i h=>IsRangeIter h it (lo+(i:Nat)*1) ((n:Int)-(i:Nat)) 1) where
 mem:=by simp
 obj:=λ i h st b hb=>by
  have e:b=it:=by simpa using hb
  subst e;exact⟨_,st,λ v z=>by
   have z':Data.fields _=Data.cell v:=z;cases z'⟩
 keep:=λ i h h' st k=>k it (by simp) _ st
 item:=by
  intro X hP hw hK hc i pins s σ H E I hf st hg;subst hP hw hK;obtain⟨f0,f1,f2,f3,f4,f5⟩:=hf it (by simp);have W:=Walks.range (prog:=X.prog) (w:=X.w) (I.ok.hd hc) it lo 1 n;refine W.item i s _ _ hg st λ v h' tk hv st' kk=>?_;obtain⟨t,rfl⟩:=hv;have I1:Inv X pins σ H { s with heap:=h',toks:=tk }:=I.turned (λ b o hb e=>kk b o (by simpa using hb) e) f0 f1 f3 f4 f5;refine⟨_,rfl,gf (s:={ s with heap:=h',toks:=tk }) (n:="range_iterator") st' rfl rfl (by decide) ⟨.int (lo+i),H,I1,⟨t,?_⟩,⟨rfl,rfl⟩,st',λ b hb=>(hf b hb).1⟩⟩;rw[Int.mul_one]
 done:=by
  intro X hP hw hK hc i pins s σ H E I hf st hg;subst hP hw hK;obtain⟨f0,f1,f2,f3,f4,f5⟩:=hf it (by simp);exact wpAny_pyNext_range_end (I.ok.hd hc) st (by have:n<=i:=hg;omega) λ h' eb=>⟨rfl,I.turned (t':=s.toks) (λ b o hb e=>eb b o hb e) f0 f1 f3 f4 f5⟩
 self:=λ _ _ _ _ _ st h=>wpAny_pyIter_rangeiter st h
end L2
namespace L2
open PySem PySem.Spec PyProof.Rows
section
variable {X:Cx}{tg:Expr}
theorem XC {pins:List (Addr×Obj)}{σ:St}{H:Hp}{s:Shared}{R:It->Hp->Prop}{E:Value->Shared->Prop}{lo hi:Int}{t u v:Tok}{tk:Nat}(I:Inv X pins σ H s) (h1:-(2 ^ 62)<=lo) (h2:lo<2 ^ 62) (h3:-(2 ^ 62)<=hi) (h4:hi<2 ^ 62)
  (q:R (kM lo (hi-lo).toNat) H):wpAny (model X.prog X.w) X.A (pyIter (.ref s.heap.objs.size)) (Zf X pins σ tg R) E { s with heap:=s.heap.push { cls:=.type "range",data:=.fields #[.int lo t,.int hi u,.int 1 v] },toks:=tk }:=by
 refine wpAny_pyIter_range (IsRange.new ..) (small_one h1 h2 h3 h4) ?_;have I1:Inv X pins σ H { s with heap:=s.heap.push { cls:=.type "range",data:=.fields #[.int lo t,.int hi u,.int 1 v] },toks:=tk }:=I.kept λ b o e=>zHp _ e;refine⟨(s.heap.push { cls:=.type "range",data:=.fields #[.int lo t,.int hi u,.int 1 v] }).objs.size,[(s.heap.push { cls:=.type "range",data:=.fields #[.int lo t,.int hi u,.int 1 v] }).objs.size],_,_,H,rfl,
  I1.kept (t':=tk) λ b o e=>zHp _ e,Y3 _ lo (hi-lo).toNat,?_,λ b hb=>?_,q⟩
 .have e1:lo+((0:Nat):Int)*1=lo:=by simp
  have e2:(((hi-lo).toNat:Nat):Int)-((0:Nat):Int)=Builtin.Range.rangeSize lo hi 1:=by rw[rangeSize_one];split <;> omega
  show IsRangeIter _ _ (lo+((0:Nat):Int)*1) ((((hi-lo).toNat:Nat):Int)-((0:Nat):Int)) 1;rw[e1,e2];exact Heap.get?_push_size _ rfl
 .have e:b=(s.heap.push { cls:=.type "range",data:=.fields #[.int lo t,.int hi u,.int 1 v] }).objs.size:=by simpa using hb
  subst e;exact I1.lZ (Nat.le_refl _) (I1.zE.fresh (Nat.le_refl _))
def bw (ta:TA):TI:=fun σ H R=>ta σ H λ vs H1=>∃ j:Int,vs=[.int j]/\-(2 ^ 62)<=j/\j<2 ^ 62/\R (kM 0 j.toNat) H1
theorem Wn {a:Expr}{ta:TA}{p pos:Pos}(hg:Gl X "range") (hm:X.mg "range"=none) (ha:PA X [a] ta) (hs:starEach [a] X.env=[(false,eval a X.env)]:=by rfl):PI X tg (.Call (.Name "range" p) [a] [] pos) (bw ta):=by
 intro pins s σ H R I h;refine Call_ (qT I hg hm boot_range (PyProof.Rows.callWith_type1 (zK (ha pos pins s σ H _ I h) λ us s1 ⟨vs,H1,I1,r1,q1⟩=>?_) hs rfl));obtain⟨j,e,q1,q2,q⟩:=q1;subst e;cases r1 with
 | cons r rr=>
  cases rr;obtain⟨t,rfl⟩:=r;exact call_range_1 (XC I1 (by omega) (by omega) q1 q2 (by simpa using q))
def YN (wi:TI) (g:TG) (tb:TS):TS:=λ D σ H=>wi σ H λ J H1=>∃ W:Nat->Nat->St->Hp->Prop,(∃ m,W 0 m σ H1)/\∀ i m σ H,W i m σ H->
 (J.stop i H/\D.nx σ H)\/(J.go i H/\∃ N:St->Hp->Prop,(∀ σ' H',N σ' H'->∃ m',m'<m/\W (i+1) m' σ' H')/\∀ x H',J.qx i H x H'->g x σ H' fun σ2 H2=>tb { D with nx:=N,ct:=N,bk:=D.nx } σ2 H2)
noncomputable def o3 (fp:List Addr) (h:Heap):List (Addr×Obj):=fp.filterMap λ b=>(h.get? b).map λ o=>(b,o)
theorem lL {fp:List Addr}{h:Heap}{b:Addr}{o:Obj}(hb:b∈fp) (e:h.get? b=some o):(b,o)∈o3 fp h:=List.mem_filterMap.mpr ⟨b,hb,by rw[e];rfl⟩
theorem UB {fp:List Addr}{h:Heap}{p:Addr×Obj}(hp:p∈o3 fp h):p.1∈fp/\h.get? p.1=some p.2:=by
 obtain⟨b,hb,e⟩:=List.mem_filterMap.mp hp;cases q:h.get? b with
 | none=>rw[q] at e;cases e
 | some o=>
  rw[q] at e;have e':(b,o)=p:=Option.some.inj e;subst e';exact⟨hb,q⟩
theorem Inv.pinned {pins:List (Addr×Obj)}{σ:St}{H:Hp}{s:Shared}{fp:List Addr}(I:Inv X pins σ H s) (hf:∀ b∈fp,vT X pins H b) (ho:∀ b∈fp,∃ o,s.heap.get? b=some o/\∀ v,o.data≠.cell v):Inv X (pins++o3 fp s.heap) σ H s:=
 I.ig λ p hp=>(List.mem_append.mp hp).elim (λ z=>I.pin p (List.mem_append_right _ z)) λ z=>by
  obtain⟨hb,e⟩:=UB z;obtain⟨f0,f1,f2,_⟩:=hf p.1 hb;obtain⟨o,e',d⟩:=ho p.1 hb;rw[e] at e';cases e';exact⟨e,f0,f1,f2,d⟩
theorem Inv.pZ {pins pl:List (Addr×Obj)}{σ:St}{H:Hp}{s:Shared}(I:Inv X (pins++pl) σ H s):Inv X pins σ H s:=I.ig λ p hp=>I.pin p (List.mem_append_right _ (List.mem_append_left _ hp))
theorem Wb {iter:Expr}{body:List Stmt}{wi:TI}{g:TG}{tb:TS}{pos:Pos}(hp:PassesOwn (model X.prog X.w) X.A X.env X.xe) (hc:X.calm=true) (hi:PI X tg iter wi) (hg:PG X tg g) (hb:x_ X body tb)
  (hs:∀ x,foldedSetIterable iter X.env x=pure x:=by intro _;rfl):PS X (.For tg iter body [] pos) (YN wi g tb):=by
 intro pins s σ H D I h;refine wpAny_For (zK (hi pins s σ H _ I h) λ v s1 h1=>zK h1 λ itv s2 h2=>?_) hs;obtain⟨it,fp,tn,J,H2,e,I2,T,st2,f2,W,⟨m0,w0⟩,turn⟩:=h2;subst e;have stat:∀ {H':Hp},(∀ b∈fp,H' b=none)->∀ b∈fp,vT X pins H' b:=λ hn b hb=>⟨hn b hb,(f2 b hb).2⟩;refine codeAny_forLoop_any (λ n s'=>∃ i σ' H',Inv X pins σ' H' s'/\tn i s'.heap/\(∀ b∈fp,H' b=none)/\W i n σ' H') ?_ m0 ⟨0,σ,H2,I2,st2,λ b hb=>(f2 b hb).1,w0⟩;rintro n s3 ⟨i,σ3,H3,I3,st3,fr3,w3⟩;rcases turn i n σ3 H3 w3 with ⟨stop,qn⟩ | ⟨go,N,hN,step⟩
 .refine wpAny_passesOwn hp (zK (T.done X rfl rfl rfl hc i pins s3 σ3 H3 X.xe I3 (stat fr3) st3 stop) λ r s4 ⟨hr,I4⟩=>?_);subst hr;exact wpAny_execs_nil ⟨σ3,H3,I4,qn⟩
 .refine wpAny_passesOwn hp (zK (T.item X rfl rfl rfl hc i pins s3 σ3 H3 X.xe I3 (stat fr3) st3 go) λ r s4 ⟨u,hr,h4⟩=>?_);subst hr;refine wpAny_passesOwn hp (zK h4 λ _ s5 ⟨x,H5,I5,r5,y5,st5,fr5⟩=>?_);have I5':=I5.pinned (stat fr5) (T.obj _ _ st5);refine wpAny_passesOwn hp (zK (hg _ s5 σ3 H5 x u _ I5' r5 (step x H5 y5)) λ _ s6 ⟨σ6,H6,I6,q6⟩=>?_);refine wpAny_passesOwn hp (zK (hb _ s6 σ6 H6 _ I6 q6) λ f s7 q7=>?_);have again:∀ {σ7:St}{H7:Hp},Inv X (pins++o3 fp s5.heap) σ7 H7 s7->N σ7 H7->∃ m,m<n/\∃ i σ' H',Inv X pins σ' H' s7/\tn i s7.heap/\(∀ b∈fp,H' b=none)/\W i m σ' H':=λ{σ7 H7} I7 n7=>by
   obtain⟨m',hm,w7⟩:=hN σ7 H7 n7;refine⟨m',hm,i+1,σ7,H7,I7.pZ,T.keep _ _ _ st5 λ b hb o e=>(I7.pin (b,o) (List.mem_append_right _ (List.mem_append_right _ (lL hb e)))).1,λ b hb=>?_,w7⟩;obtain⟨o,e,d⟩:=T.obj _ _ st5 b hb;exact (I7.pin (b,o) (List.mem_append_right _ (List.mem_append_right _ (lL hb e)))).2.1
  cases f with
  | next=>obtain⟨σ7,H7,I7,n7⟩:=q7;exact again I7 n7
  | cont=>obtain⟨σ7,H7,I7,n7⟩:=q7;exact again I7 n7
  | brk=>obtain⟨σ7,H7,I7,q7⟩:=q7;exact⟨σ7,H7,I7.pZ,q7⟩
  | ret v=>obtain⟨x7,σ7,H7,I7,r7,q7⟩:=q7;exact⟨x7,σ7,H7,I7.pZ,r7,q7⟩
end
end L2
namespace L2
open PySem PySem.Spec PyProof.Rows
abbrev R2:=V->V->Hp->VK->Prop
def yr (X:Cx) (f:Value->Value->Sem Value) (r:R2):Prop:=
 ∀ (pins:List (Addr×Obj)) (s:Shared) (σ:St) (H:Hp) (x y:V) (v u:Value) (Q:VK),Inv X pins σ H s->RelV x v->RelV y u->r x y H Q->
  wpAny (model X.prog X.w) X.A (f v u) (EP X pins σ Q) X.xe s
def gQ (X:Cx) (f:Value->Sem Value) (r:V->Hp->VK->Prop):Prop:=
 ∀ (pins:List (Addr×Obj)) (s:Shared) (σ:St) (H:Hp) (x:V) (v:Value) (Q:VK),Inv X pins σ H s->RelV x v->r x H Q->
  wpAny (model X.prog X.w) X.A (f v) (EP X pins σ Q) X.xe s
def yK (X:Cx) (f:Value) (r:List V->Hp->VK->Prop):Prop:=
 ∀ (pins:List (Addr×Obj)) (s:Shared) (σ:St) (H:Hp) (xs:List V) (us:List Value) (Q:VK),Inv X pins σ H s->Vals xs us->r xs H Q->
  wpAny (model X.prog X.w) X.A (call f us) (EP X pins σ Q) X.xe s
def Qu (X:Cx) (r:V->Hp->(Bool->Hp->Prop)->Prop):Prop:=
 ∀ (pins:List (Addr×Obj)) (s:Shared) (σ:St) (H:Hp) (x:V) (v:Value) (Q:Bool->Hp->Prop),Inv X pins σ H s->RelV x v->r x H Q->
  wpAny (model X.prog X.w) X.A (truthy v) (TP X pins σ Q) X.xe s
def p_ (r:R2) (ta tb:TE):TE:=fun σ H Q=>ta σ H λ x H1=>tb σ H1 λ y H2=>r x y H2 Q
def YB (r:V->Hp->VK->Prop) (ta:TE):TE:=fun σ H Q=>ta σ H λ x H1=>r x H1 Q
def rI (C:Int->Int->Prop) (g:Int->Int->V):R2:=λ x y H Q=>∃ i j,x=.int i/\y=.int j/\C i j/\Q (g i j) H
def wZ (g:Int->Int->V):R2:=λ x y H Q=>∃ i j,x=.int i/\y=.int j/\Q (g i j) H
def rU (g:Int->V):V->Hp->VK->Prop:=λ x H Q=>∃ i,x=.int i/\Q (g i) H
section
variable {X:Cx}{a b c:Expr}{ta tb tc:TE}{pos:Pos}
theorem gF (ha:PE X a ta) (hb:PE X b tb) {pins:List (Addr×Obj)}{s:Shared}{σ:St}{H:Hp}{R:V->V->Hp->Prop}(I:Inv X pins σ H s)
  (h:ta σ H λ x H1=>tb σ H1 λ y H2=>R x y H2) {Q:Value->Shared->Prop}{f:Value->Value->Sem Value}
  (hf:∀ v u s2 x y H2,Inv X pins σ H2 s2->RelV x v->RelV y u->R x y H2->wpAny (model X.prog X.w) X.A (f v u) Q X.xe s2):
  wpAny (model X.prog X.w) X.A (eval a X.env) (λ v s₁=>wpAny (model X.prog X.w) X.A (eval b X.env) (λ u s₂=>wpAny (model X.prog X.w) X.A (f v u) Q X.xe s₂) X.xe s₁) X.xe s:=by
 refine zK (ha pins s σ H _ I h) λ v s1 ⟨x,H1,I1,r1,q1⟩=>?_;refine zK (hb pins s1 σ H1 _ I1 q1) λ u s2 ⟨y,H2,I2,r2,q2⟩=>?_;exact hf v u s2 x y H2 I2 r1 r2 q2
theorem W4 {op:Operator}{r:R2}(ho:yr X (binaryOp op) r) (ha:PE X a ta) (hb:PE X b tb):PE X (.BinOp a op b pos) (p_ r ta tb):=by
 intro pins s σ H Q I h;exact wpAny_BinOp (gF ha hb I h λ v u s2 x y H2 I2 rx ry q=>ho pins s2 σ H2 x y v u Q I2 rx ry q)
theorem W0 {op:UnaryOp}{r:V->Hp->VK->Prop}(ho:gQ X (unaryOp op) r) (ha:PE X a ta):PE X (.UnaryOp op a pos) (YB r ta):=by
 intro pins s σ H Q I h;exact UnaryOp_ (zK (ha pins s σ H _ I h) λ v s1 ⟨x,H1,I1,r1,q1⟩=>ho pins s1 σ H1 x v Q I1 r1 q1)
theorem lA {f:Value->Value->Sem Value}{C:Int->Int->Prop}{g:Int->Int->Int}
  (rule:∀ (i j:Int) (t u:Tok) (s:Shared) (Q:Value->Shared->Prop) (E:Value->Shared->Prop),C i j->Q (.int (g i j) s.toks) { s with toks:=s.toks+1 }->wpAny (model X.prog X.w) X.A (f (.int i t) (.int j u)) Q E s):
  yr X f (rI C λ i j=>.int (g i j)):=by
 intro pins s σ H x y v u Q I rx ry h;obtain⟨i,j,rfl,rfl,hc,q⟩:=h;obtain⟨t,rfl⟩:=rx;obtain⟨t',rfl⟩:=ry;exact rule i j t t' s _ _ hc ⟨.int (g i j),H,I.tok _,⟨_,rfl⟩,q⟩
theorem cg {f:Value->Value->Sem Value}{g:Int->Int->Int}
  (rule:∀ (i j:Int) (t u:Tok) (s:Shared) (Q:Value->Shared->Prop) (E:Value->Shared->Prop),Q (.int (g i j) s.toks) { s with toks:=s.toks+1 }->wpAny (model X.prog X.w) X.A (f (.int i t) (.int j u)) Q E s):
  yr X f (wZ λ i j=>.int (g i j)):=by
 intro pins s σ H x y v u Q I rx ry h;obtain⟨i,j,rfl,rfl,q⟩:=h;obtain⟨t,rfl⟩:=rx;obtain⟨t',rfl⟩:=ry;exact rule i j t t' s _ _ ⟨.int (g i j),H,I.tok _,⟨_,rfl⟩,q⟩
theorem lB {f:Value->Value->Sem Value}{g:Int->Int->Bool}
  (rule:∀ (i j:Int) (t u:Tok) (s:Shared) (Q:Value->Shared->Prop) (E:Value->Shared->Prop),Q (.bool (g i j)) s->wpAny (model X.prog X.w) X.A (f (.int i t) (.int j u)) Q E s):
  yr X f (wZ λ i j=>.bl (g i j)):=by
 intro pins s σ H x y v u Q I rx ry h;obtain⟨i,j,rfl,rfl,q⟩:=h;obtain⟨t,rfl⟩:=rx;obtain⟨t',rfl⟩:=ry;exact rule i j t t' s _ _ ⟨.bl (g i j),H,I,rfl,q⟩
def xt (i j:Int):Prop:=0<j/\j<1073741824
def qw (i j:Int):Prop:=0<=j/\j<=1000000/\i.natAbs<2 ^ 64
def wz (i j:Int):Prop:=(-(2 ^ 64)<i/\i<2 ^ 64)\/(-(2 ^ 64)<j/\j<2 ^ 64)
theorem wz.ok {i j:Int}(h:wz i j):IntMulOk i j:=by
 rcases h with ⟨h1,h2⟩ | ⟨h1,h2⟩
 .exact .of_left (intBits_le_64 h1 h2)
 .exact .of_right (intBits_le_64 h1 h2)
theorem VJ:yr X (binaryOp .Add) (wZ λ i j=>.int (i+j)):=cg λ _ _ _ _ _ _ _ q=>add_int q
theorem V1:yr X (binaryOp .Sub) (wZ λ i j=>.int (i-j)):=cg λ _ _ _ _ _ _ _ q=>sub_int q
theorem V6:yr X (binaryOp .Mult) (rI wz λ i j=>.int (i*j)):=lA λ _ _ _ _ _ _ _ hc q=>mul_int q hc.ok
theorem VE:yr X (binaryOp .FloorDiv) (rI xt λ i j=>.int (i/j)):=lA λ i j _ _ _ _ _ hc q=>by
 have h1:(0:Int)<j:=hc.1;have h2:j<1073741824:=hc.2;exact floordiv_int (by omega) (by rw[Int.fdiv_eq_ediv_of_nonneg i (by omega)];exact q) (.inl (PyProof.noPylong_small (by omega)))
theorem V7:yr X (binaryOp .Mod) (rI (λ _ j=>0<j) λ i j=>.int (i%j)):=lA λ i j _ _ _ _ _ hc q=>by
 have h1:(0:Int)<j:=hc;exact mod_int' (by omega) (by rw[Int.fmod_eq_emod_of_nonneg i (by omega)];exact q)
theorem V2:yr X (binaryOp .Pow) (rI qw λ i j=>.int (i ^ j.toNat)):=lA λ _ _ _ _ _ _ _ hc q=>pow_int_small hc.1 hc.2.1 hc.2.2 q
theorem Yz {f:Value->Sem Value}{g:Int->Int}
  (rule:∀ (i:Int) (t:Tok) (s:Shared) (Q:Value->Shared->Prop) (E:Value->Shared->Prop),Q (.int (g i) s.toks) { s with toks:=s.toks+1 }->wpAny (model X.prog X.w) X.A (f (.int i t)) Q E s):
  gQ X f (rU λ i=>.int (g i)):=by
 intro pins s σ H x v Q I rx h;obtain⟨i,rfl,q⟩:=h;obtain⟨t,rfl⟩:=rx;exact rule i t s _ _ ⟨.int (g i),H,I.tok _,⟨_,rfl⟩,q⟩
theorem Yy:gQ X (unaryOp .USub) (rU λ i=>.int (-i)):=Yz λ _ _ _ _ _ q=>neg_int q
end
section
variable {X:Cx}{a b c:Expr}{ta tb tc:TE}{pos:Pos}
theorem SN {pins:List (Addr×Obj)}{σ:St}{H:Hp}{s:Shared}{Q:VK}{k k':Bool}(I:Inv X pins σ H s) (q:Q (.bl k) H) (e:k=k'):EP X pins σ Q (.bool k') s:=by
 subst e;exact⟨.bl k,H,I,rfl,q⟩
theorem V9:yr X (compareOp .Lt) (wZ λ i j=>.bl (decide (i<j))):=lB λ _ _ _ _ _ _ _ q=>lt_int q
theorem i0:yr X (compareOp .LtE) (wZ λ i j=>.bl (decide (i<=j))):=lB λ _ _ _ _ _ _ _ q=>le_int q
theorem VD:yr X (compareOp .Gt) (wZ λ i j=>.bl (decide (j<i))):=lB λ _ _ _ _ _ _ _ q=>gt_int q
theorem d_:yr X (compareOp .GtE) (wZ λ i j=>.bl (decide (j<=i))):=lB λ _ _ _ _ _ _ _ q=>ge_int q
theorem VA:yr X (compareOp .Is) (λ x y H Q=>y=.zk/\Q (.bl (decide (x=.zk))) H):=by
 intro pins s σ H x y v u Q I rx ry h;obtain⟨rfl,q⟩:=h;cases ry;refine is_none_gen (SN I q ?_);cases x <;> first
  | (cases rx;rfl)
  | (obtain⟨t,rfl⟩:=rx;rfl)
theorem yr.or {f:Value->Value->Sem Value}{r r':R2}(h:yr X f r) (h':yr X f r'):yr X f (λ x y H Q=>r x y H Q\/r' x y H Q):=by
 intro pins s σ H x y v u Q I rx ry q;rcases q with q | q
 .exact h pins s σ H x y v u Q I rx ry q
 .exact h' pins s σ H x y v u Q I rx ry q
theorem uS (b:Expr) {op:CmpOp}(h:op≠.In:=by decide) (h2:op≠.NotIn:=by decide):behindInMarks op b=false:=by
 have e1:(op == CmpOp.In)=false:=by cases op <;> first | rfl | exact absurd rfl h
 have e2:(op == CmpOp.NotIn)=false:=by cases op <;> first | rfl | exact absurd rfl h2
 cases b <;> simp[behindInMarks,e1,e2]
theorem WI {op:CmpOp}{r:R2}(ho:yr X (compareOp op) r) (ha:PE X a ta) (hb:PE X b tb) (hm:behindInMarks op b=false):PE X (.Compare a [op] [b] pos) (p_ r ta tb):=by
 intro pins s σ H Q I h;exact wpAny_Compare1 (gF ha hb I h λ v u s2 x y H2 I2 rx ry q=>ho pins s2 σ H2 x y v u Q I2 rx ry q) hm
def YD (t:TE):TT:=fun σ H Q=>t σ H λ x H'=>∃ k,x=.bl k/\Q k H'
theorem XS {op:CmpOp}{r:R2}(ho:yr X (compareOp op) r) (ha:PE X a ta) (hb:PE X b tb) (hm:behindInMarks op b=false):PT X (.Compare a [op] [b] pos) (YD (p_ r ta tb)):=by
 intro pins s σ H Q I h;refine wpAny_isTrue_Compare1 (zK (ha pins s σ H _ I h) λ v s1 ⟨x,H1,I1,r1,q1⟩=>zK (hb pins s1 σ H1 _ I1 q1) λ u s2 ⟨y,H2,I2,r2,q2⟩=>
  zK (ho pins s2 σ H2 x y v u _ I2 r1 r2 q2) λ c s3 ⟨z,H3,I3,r3,k,e,q3⟩=>?_) hm
 subst e;cases r3;exact wpAny_truthy_bool ⟨H3,I3,q3⟩
def eC (r r':R2) (ta tb tc:TE):TE:=fun σ H Q=>ta σ H λ x H1=>tb σ H1 λ y H2=>r x y H2 λ z H3=>∃ k,z=.bl k/\
 (if k=true then tc σ H3 λ w' H4=>r' y w' H4 Q else Q (.bl false) H3)
theorem WJ {op op':CmpOp}{r r':R2}(ho:yr X (compareOp op) r) (ho':yr X (compareOp op') r') (ha:PE X a ta) (hb:PE X b tb) (hc:PE X c tc)
  (hm:lastMarks [op,op'] [b,c]=false:=by with_unfolding_all rfl):PE X (.Compare a [op,op'] [b,c] pos) (eC r r' ta tb tc):=by
 intro pins s σ H Q I h;refine Compare_chain (zK (ha pins s σ H _ I h) λ v s1 ⟨x,H1,I1,r1,q1⟩=>chain_link (zK (hb pins s1 σ H1 _ I1 q1) λ u s2 ⟨y,H2,I2,r2,q2⟩=>
  zK (ho pins s2 σ H2 x y v u _ I2 r1 r2 q2) λ d s3 ⟨z,H3,I3,r3,k,e,q3⟩=>?_)) hm
 subst e;cases r3;refine wpAny_truthy_bool ?_;cases k with
 | false=>exact ite_ff ⟨.bl false,H3,I3,rfl,q3⟩
 | true=>exact ite_tt (chain_last (zK (hc pins s3 σ H3 _ I3 q3) λ w' s4 ⟨z',H4,I4,r4,q4⟩=>ho' pins s4 σ H4 y z' u w' Q I4 r2 r4 q4))
def gR (K:PySem.W.Frag) (x:V) (H:Hp) (k:Bool):Prop:=
 match x with
 | .zk=>k=false
 | .bl b=>k=b
 | .int i=>k=(i != 0)
 | .str y=>y.length<=sizeLine/\k=((y.length:Int) != 0)
 | .pC y=>y.size<=sizeLine/\k=((y.size:Int) != 0)
 | .ref p=>(∃ xs,zQ K H p xs/\k=!xs.isEmpty)\/(∃ xs,yb K H p xs/\k=!xs.isEmpty)\/∃ kvs,H p=some (.dK kvs)/\k=!kvs.isEmpty
 | _=>False
theorem TN {κ:Type}{kvs:List (κ × V)}{vs:List (κ × Value)}(r:KV kvs vs):(!vs.isEmpty)=!kvs.isEmpty:=by
 cases r <;> rfl
theorem cY {xs:List V}{its:List Value}(r:Vals xs its):(!its.toArray.isEmpty)=!xs.isEmpty:=by
 cases r <;> simp
theorem rQ:(sizeLine:Nat)<2 ^ 63:=by rw[sizeLine_eq];decide
theorem Y8:Qu X (λ x H Q=>∃ k,gR X.K x H k/\Q k H):=by
 intro pins s σ H x v Q I rx h;obtain⟨k,e,q⟩:=h;have hl:=rQ;have hs:sizeLine=16777216:=sizeLine_eq;cases x with
 | zk=>
  cases rx;have e':k=false:=e;subst e';exact truthy_none ⟨H,I,q⟩
 | bl b=>
  cases rx;have e':k=b:=e;subst e';exact wpAny_truthy_bool ⟨H,I,q⟩
 | int i=>
  obtain⟨t,rfl⟩:=rx;have e':k=(i != 0):=e;subst e';exact PySem.P.truthy_int ⟨H,I,q⟩
 | str y=>
  obtain⟨t,rfl⟩:=rx;obtain⟨hy,e'⟩:y.length<=sizeLine/\k=((y.length:Int) != 0):=e;subst e';exact PySem.P.truthy_str (by omega) ⟨H,I.tok _,q⟩
 | pC y=>
  obtain⟨t,rfl⟩:=rx;obtain⟨hy,e'⟩:y.size<=sizeLine/\k=((y.size:Int) != 0):=e;subst e';exact PySem.W.truthy_bytes (by omega) ⟨H,I.tok _,q⟩
 | ref p=>
  cases rx;have e':(∃ xs,zQ X.K H p xs/\k=!xs.isEmpty)\/(∃ xs,yb X.K H p xs/\k=!xs.isEmpty)\/∃ kvs,H p=some (.dK kvs)/\k=!kvs.isEmpty:=e;rcases e' with ⟨xs,hx,e'⟩ | ⟨xs,hx,e'⟩ | ⟨kvs,hx,e'⟩
  .subst e';obtain⟨its,r,pl,hz⟩:=I.list hx;have hlen:=r.length;exact wpAny_truthy_list pl.isList (by simp only[List.size_toArray];omega) ⟨H,I.tok _,by rw[cY r];exact q⟩
  .subst e';obtain⟨its,r,pl,hz⟩:=I.tuple hx;have hlen:=r.length;exact truthy_tuple pl (by simp only[List.size_toArray];omega) ⟨H,I.tok _,by rw[cY r];exact q⟩
  .subst e';obtain⟨hz,hS,vs,r,m⟩:kvs.length<=sizeLine/\(p == sysModules)=false/\∃ vs,KV kvs vs/\s.heap.DictOf (wK X.prog X.w) p vs:=I.zE p _ hx;have hlen:kvs.length=vs.length:=Paired.length r;exact wpAny_truthy_dict hS m (by omega) ⟨H,I.tok _,by rw[TN r];exact q⟩
 | _=>exact (show False from e).elim
theorem XQ (ha:PE X a ta) (he:∀ whole,isTrue a X.env whole=(do let v <- whole;standAt a.pos;holding [v] (truthy v))):
  PT X a (fun σ H Q=>ta σ H λ x H'=>∃ k,gR X.K x H' k/\Q k H'):=by
 intro pins s σ H Q I h;exact isTrue_plain (zK (ha pins s σ H _ I h) λ v s1 ⟨x,H1,I1,r1,q1⟩=>Y8 pins s1 σ H1 x v Q I1 r1 q1) (he _)
theorem VI:yr X (binaryOp .Add) (λ x y H Q=>∃ i j,x=.str i/\y=.str j/\i.length+j.length<=sizeLine/\Q (.str (i++j)) H):=by
 intro pins s σ H x y v u Q I rx ry h;obtain⟨i,j,rfl,rfl,hz,q⟩:=h;obtain⟨t,rfl⟩:=rx;obtain⟨t',rfl⟩:=ry;exact add_str (λ t' tk=>⟨.str (i++j),H,I.tok _,⟨_,rfl⟩,q⟩) hz
theorem vals1 {x:V}{us:List Value}(r:Vals [x] us):∃ u,us=[u]/\RelV x u:=by
 cases r with
 | cons r1 r2=>cases r2;exact⟨_,rfl,r1⟩
theorem vals2 {x y:V}{us:List Value}(r:Vals [x,y] us):∃ u w',us=[u,w']/\RelV x u/\RelV y w':=by
 cases r with
 | cons r1 r2=>
  cases r2 with
  | cons r3 r4=>cases r4;exact⟨_,_,rfl,r1,r3⟩
theorem RS (hc:X.calm=true):yK X (.builtin "max") (λ xs H Q=>∃ i j,xs=[.int i,.int j]/\Q (.int (if j>i then j else i)) H):=by
 intro pins s σ H xs us Q I r h;obtain⟨i,j,rfl,q⟩:=h;obtain⟨u,w',rfl,⟨t,rfl⟩,⟨t',rfl⟩⟩:=vals2 r;refine max_two_ints (I.ok.hd hc) λ h' tk k=>⟨_,H,I.kept k,?_,q⟩;by_cases hj:j>i
 .rw[if_pos hj,if_pos hj];exact⟨_,rfl⟩
 .rw[if_neg hj,if_neg hj];exact⟨_,rfl⟩
theorem RQ (hc:X.calm=true):yK X (.builtin "min") (λ xs H Q=>∃ i j,xs=[.int i,.int j]/\Q (.int (if j<i then j else i)) H):=by
 intro pins s σ H xs us Q I r h;obtain⟨i,j,rfl,q⟩:=h;obtain⟨u,w',rfl,⟨t,rfl⟩,⟨t',rfl⟩⟩:=vals2 r;refine min_two_ints (I.ok.hd hc) λ h' tk k=>⟨_,H,I.kept k,?_,q⟩;by_cases hj:j<i
 .rw[if_pos hj,if_pos hj];exact⟨_,rfl⟩
 .rw[if_neg hj,if_neg hj];exact⟨_,rfl⟩
theorem RY:yK X (.type "int") (λ xs H Q=>(∃ i,xs=[.int i]/\Q (.int i) H)\/∃ k,xs=[.bl k]/\Q (.int (if k then 1 else 0)) H):=by
 intro pins s σ H xs us Q I r h;rcases h with ⟨i,rfl,q⟩ | ⟨k,rfl,q⟩
 .obtain⟨u,rfl,t,rfl⟩:=vals1 r;exact call_int_int ⟨.int i,H,I,⟨_,rfl⟩,q⟩
 .obtain⟨u,rfl,r1⟩:=vals1 r;cases r1;exact call_int_bool ⟨.int (if k then 1 else 0),H,I.tok _,⟨_,rfl⟩,q⟩
end
end L2
namespace L2
open PySem PySem.Spec PyProof.Rows
section
variable {prog:Program}{w:World}{A:Around}{E:Value->Shared->Prop}{s:Shared}{K:PySem.W.Frag}{x dx C f:Addr}{mA:Str->Option Value}{name:Str}{v:Value}
end
theorem uv.some_of {v:V}{o:Option Value}(r:uv (some v) o):∃ u,o=some u/\RelV v u:=by
 cases o with
 | none=>exact (show False from r).elim
 | some u=>exact⟨u,rfl,r⟩
section
variable {P:Program}{w:World}{H H':Hp}{h h':Heap}{a C dx:Addr}{fs fs':List (Str×V)}
end
section
variable {X:Cx}{pins:List (Addr×Obj)}{σ:St}{H:Hp}{s:Shared}{a C dx:Addr}{fs:List (Str×V)}{f:Str}{v:V}{A:Around}{E:Value->Shared->Prop}
end
section
variable {X:Cx}{o e value:Expr}{f:Str}{pos pos' tpos:Pos}{ta tv:TE}
end
section
variable {X:Cx}{pins:List (Addr×Obj)}{σ:St}{H:Hp}{s:Shared}{A:Around}{E:Value->Shared->Prop}{Q:Value->Shared->Prop}{c:Value}{b:Bool}
end
end L2
namespace L2
open PySem PySem.Spec PyProof.Rows
structure y9 (k:Nat) (A:Around):Prop where
 hd:A.handled=none
 dp:A.depth+3*k+5<recursionLimit
 un:A.units+16*k+200<cLine
theorem y9.mono {j k:Nat}{A:Around}(r:y9 k A) (h:j<=k):y9 j A:=⟨r.hd,by have:=r.dp;omega,by have:=r.un;omega⟩
theorem y9.deeper {k:Nat}{A:Around}(r:y9 (k+1) A) (env:Env):y9 k (A.deeper env):=
 ⟨r.hd,by have:=r.dp;show A.depth+1+3*k+5<_;omega,by have:=r.un;show A.units+3+16*k+200<_;omega⟩
theorem y9.depth {k:Nat}{A:Around}(r:y9 k A):A.depth<recursionLimit:=by have:=r.dp;omega
theorem y9.units {k:Nat}{A:Around}(r:y9 k A):A.units+64<cLine:=by have:=r.un;omega
def jh:TA:=λ _ H Q=>Q [] H
def jj (ta:TE) (tr:TA):TA:=fun σ H Q=>ta σ H λ x H1=>tr σ H1 λ xs H2=>Q (x::xs) H2
section
variable {X:Cx}{e:Expr}{es:List Expr}{te:TE}{t:TA}{pos:Pos}
theorem qP:PA X [] jh:=λ _ _ _ _ H Q I h=>Calls.spliced_nil ⟨[],H,I,.nil,h⟩
theorem rH (ha:PE X e te) (hr:PA X es t) (hs:starEach (e::es) X.env=(false,eval e X.env)::starEach es X.env:=by rfl):PA X (e::es) (jj te t):=by
 intro pos pins s σ H Q I h;rw[hs];show wpAny _ _ (spliced ((false,eval e X.env)::backTo pos (starEach es X.env))) _ _ s;refine Calls.spliced_cons (zK (ha pins s σ H _ I h) λ u s1 ⟨x,H1,I1,r1,q1⟩=>?_);exact zK (hr pos pins s1 σ H1 _ I1 q1) λ us s2 ⟨xs,H2,I2,r2,q2⟩=>⟨x::xs,H2,I2,.cons r1 r2,q2⟩
def YC (t:TA):TE:=fun σ H Q=>t σ H λ xs H1=>xs.length<=sizeLine/\∀ p,H1 p=none->Q (.ref p) (upd H1 p (.tup xs))
def YK (t:TA):TE:=fun σ H Q=>t σ H λ xs H1=>xs.length<=sizeLine/\∀ p,H1 p=none->Q (.ref p) (upd H1 p (.lst xs))
theorem W2 {x1} (h:PA X es t):PE X (.Tuple es x1 pos) (YC t):=by
 intro pins s σ H Q I hq;refine wpAny_Tuple_spliced (zK (h pos pins s σ H _ I hq) λ us s1 ⟨xs,H1,I1,r,z,q⟩=>⟨by rw[<- r.length];exact z,?_⟩);have hf:H1 s1.heap.objs.size=none:=I1.zE.fresh (Nat.le_refl _);refine⟨.ref s1.heap.objs.size,upd H1 s1.heap.objs.size (.tup xs),I1.laid (t':=s1.toks) (λ b u e=>zHp _ e) (Nat.le_refl _) ?_,rfl,q _ hf⟩;exact⟨z,us,r,⟨_,Heap.get?_push_size _ rfl,rfl,_,rfl⟩⟩
theorem W8 (h:PA X es t):PE X (.List es pos) (YK t):=by
 intro pins s σ H Q I hq;refine wpAny_List_spliced (zK (h pos pins s σ H _ I hq) λ us s1 ⟨xs,H1,I1,r,z,q⟩=>⟨by rw[<- r.length];exact z,?_⟩);have hf:H1 s1.heap.objs.size=none:=I1.zE.fresh (Nat.le_refl _);refine⟨.ref s1.heap.objs.size,upd H1 s1.heap.objs.size (.lst xs),I1.laid (t':=s1.toks) (λ b u e=>zHp _ e) (Nat.le_refl _) ?_,rfl,q _ hf⟩;exact⟨z,us,0,r,Heap.get?_push_size _ rfl⟩
end
abbrev Sp:=List V->Hp->VK->XK->Prop
abbrev uG:=List Env->Hp->Shared->XK->Value->Shared->Prop
structure kR (P:Program) (w:World) (K:PySem.W.Frag) (mg:Str->Option Value) (base:Heap) (A:Around) (outer:List Env) (s:Shared) (H:Hp):Prop where
 frames:A.frames=some outer
 mod:Mod K mg base
 bs:∀ b o,base.get? b=some o->s.heap.get? b=some o/\H b=none
 qc:base.objs.size<=s.heap.objs.size
 u9:s.heap.FunFrames base outer
 pz:∀ b∈vG outer,H b=none
 zE:xb P w H s.heap
 bare:AllBare s.gens
def CE (outer:List Env) (P:Program) (w:World) (H:Hp) (s:Shared) (Q:VK) (u:Value) (s':Shared):Prop:=
 ∃ v H',s'.os=s.os/\AllBare s'.gens/\Un (vG outer) [] H H' s.heap s'.heap/\xb P w H' s'.heap/\RelV v u/\Q v H'
def CR (CX:uG) (outer:List Env) (P:Program) (w:World) (H:Hp) (s:Shared) (Q:VK) (E:XK) (r:Result) (s':Shared):Prop:=
 match r with
 | .ok (.ret u)=>CE outer P w H s Q u s'
 | .ok _=>False
 | .error e=>CX outer H s E e s'
structure vU (P:Program) (w:World) (K:PySem.W.Frag) (mg:Str->Option Value) (base:Heap) (CX:uG) (k:Nat) (f:Addr) (fd:FuncData) (ps:List Str) (sp:Sp):Prop where
 len:∀ vs H Q E,sp vs H Q E->vs.length=ps.length
 run:∀ (A:Around) (outer:List Env) (s:Shared) (H:Hp) (args:Args) (us:List Value) (vs:List V) (Q:VK) (E:XK),y9 k A->kR P w K mg base A outer s H->BindsTo s fd args (ps.zip us)->Vals vs us->sp vs H Q E->
  codeAny (model P w) A (.call (.ref f) args) (CR CX outer P w H s Q E) s
section
variable {X:Cx}{pins:List (Addr×Obj)}{σ:St}{H:Hp}{s s':Shared}
theorem Inv.Ra (I:Inv X pins σ H s):kR X.prog X.w X.K X.mg X.base X.A X.stack s H:=
 ⟨I.ok.frames,I.ok.mod,I.bs,Nat.le_trans I.ok.qc I.sz,I.stack,I.eF,I.zE,I.bare⟩
theorem Inv.after {Q:VK}{u:Value}(I:Inv X pins σ H s) (h:CE X.stack X.prog X.w H s Q u s'):EP X pins σ Q u s':=by
 obtain⟨v,H',os,bare,un,zE,r,q⟩:=h;obtain⟨hh,g,d,t,os'⟩:=s';obtain rfl:os'=s.os:=os;exact⟨v,H',I.call (h':=hh) (g':=g) (d':=d) (t':=t) (ch:=[]) un zE bare (λ b z=>absurd z (by simp)),r,q⟩
end
def eD (sp:Sp) (dvs:List V) (E:XK) (t:TA):TE:=fun σ H Q=>t σ H λ vs H1=>sp (vs++dvs) H1 Q E
def Binds (K:PySem.W.Frag) (fd:FuncData) (ps:List Str) (ds:List Value):Prop:=
 ∀ (s:Shared) (us:List Value),K.In s.heap->(us++ds).length=ps.length->BindsTo s fd ⟨us,[]⟩ (ps.zip (us++ds))
theorem Binds.all {K:PySem.W.Frag}{fd:FuncData}{ps:List Str}(h:∀ us:List Value,us.length=ps.length->bindArgs fd ⟨us,[]⟩=pure (ps.zip us)):Binds K fd ps []:=λ s us _ hl=>by
 rw[List.append_nil] at hl ⊢;exact .of_eq (h us hl)
def Passes (CX:uG) (X:Cx) (E:XK):Prop:=∀ (pins:List (Addr×Obj)) (σ:St) (H:Hp) (s:Shared) (e:Value) (s':Shared),Inv X pins σ H s->CX X.stack H s E e s'->X.xe e s'
section
variable {X:Cx}{CX:uG}{k:Nat}{f C:Addr}{fd:FuncData}{ps:List Str}{sp:Sp}{dvs:List V}{ds:List Value}{E:XK}{x m:Str}{p pos apos:Pos}{e o:Expr}{es:List Expr}{ta:TE}{t:TA}
theorem X0 {pins:List (Addr×Obj)}{σ:St}{H:Hp}{s:Shared}{Q:VK}{us:List Value}{vs:List V}(F:vU X.prog X.w X.K X.mg X.base CX k f fd ps sp) (hr:y9 k X.A) (hb:Binds X.K fd ps ds) (hd:Vals dvs ds) (hx:Passes CX X E)
  (I:Inv X pins σ H s) (r:Vals vs us) (h:sp (vs++dvs) H Q E):wpAny (model X.prog X.w) X.A (call (.ref f) us) (EP X pins σ Q) X.xe s:=by
 have r2:Vals (vs++dvs) (us++ds):=r.append hd;have hl:(us++ds).length=ps.length:=by rw[<- r2.length];exact F.len _ _ _ _ h
 refine wpAny_call (codeAny_mono (F.run X.A X.stack s H ⟨us,[]⟩ (us++ds) (vs++dvs) Q E hr I.Ra (hb s us I.vB hl) r2 h) λ r s' hq=>?_);cases r with
 | error e=>exact hx pins σ H s e s' I hq
 | ok fl=>
  cases fl with
  | ret u=>exact I.after hq
  | next=>exact False.elim hq
  | brk=>exact False.elim hq
  | cont=>exact False.elim hq
theorem WK (F:vU X.prog X.w X.K X.mg X.base CX k f fd ps sp) (hr:y9 k X.A) (hg:Gl X x) (hm:X.mg x=some (.ref f)) (hk:PySem.W.keepIn X.K (.ref f)=true) (hb:Binds X.K fd ps ds) (hd:Vals dvs ds) (hx:Passes CX X E)
  (ha:PA X (e::es) t) (hdb:(x == ("__debug__":Str))=false:=by decide) (he:starEach (e::es) X.env=(false,eval e X.env)::starEach es X.env:=by rfl) (hpl:(backTo pos (starEach es X.env)).any (·.1)=false:=by rfl):
  PE X (.Call (.Name x p) (e::es) [] pos) (eD sp dvs E t):=by
 intro pins s σ H Q I h;refine wpAny_Call_Name_kw (cN I hg hm ?_ hdb);refine PySem.W.callWith_K (h₀:=X.base) I.ok.mod.iV hk (zK (ha pos pins s σ H _ I h) λ us s1 ⟨vs,H1,I1,r,q⟩=>⟨I1.vB,?_⟩) he hpl;exact X0 F hr hb hd hx I1 r q
end
section
variable {X:Cx}{CX:uG}{k:Nat}{f C:Addr}{fd:FuncData}{ps ks:List Str}{sp:Sp}{E:XK}{x m:Str}{p pos apos kpos:Pos}{e o:Expr}{es:List Expr}{kws:List Keyword}{te ta:TE}{t tk:TA}{nm:Option Str}
variable {g:List Value->List Value->List Value}{gV:List V->List V->List V}
end
structure yp (N P:List Str) (sc:Scope):Prop where
 kind:sc.kind=.function
 co:sc.isCoroutine=false
 gen:sc.isGenerator=false
 nd:N.Nodup
 pre:N.take P.length=P
 par:∀ x∈P,sc.names.lookup x=some .local\/sc.names.lookup x=some .cell
 UG:∀ y∈sc.names,y.2≠.free
theorem aP {kindOf:Str->Option NameKind}{x:Str}:∀ {binds:List (Str×Value)}{m:Str->Option Value},(∀ v,(x,v)∉binds)->bindL kindOf binds m x=m x
 | [],_,_=>rfl
 | (n,v)::r,m,h=>by
  unfold bindL;rw[aP λ w hw=>h w (zMo _ hw)];split
  .have:x≠n:=by rintro rfl;exact h v zMc
   simp[this]
  .rfl
theorem aR {kindOf:Str->Option NameKind}{x:Str}:∀ {binds:List (Str×Value)}{m:Str->Option Value},(∀ v,(x,v)∉binds)->bindC kindOf binds m x=m x
 | [],_,_=>rfl
 | (n,v)::r,m,h=>by
  unfold bindC;rw[aR λ w hw=>h w (zMo _ hw)];split
  .rfl
  .have:x≠n:=by rintro rfl;exact h v zMc
   simp[this]
theorem aQ {kindOf:Str->Option NameKind}{x:Str}{v:Value}:∀ {P:List Str}{vs:List Value}{i:Nat}{m:Str->Option Value},P.Nodup->P[i]?=some x->vs[i]?=some v->kindOf x=some .local->
  bindL kindOf (P.zip vs) m x=some v
 | [],_,_,_,_,h,_,_=>by simp at h
 | _::_,[],_,_,_,_,h,_=>by simp at h
 | p::P,w::vs,0,m,nd,h1,h2,hk=>by
  simp at h1 h2;subst h1;subst h2;show bindL kindOf ((p,w)::P.zip vs) m p=_;unfold bindL;rw[aP λ v hv=>(List.nodup_cons.mp nd).1 (List.of_mem_zip hv).1,if_pos hk];simp
 | p::P,w::vs,i+1,m,nd,h1,h2,hk=>by
  show bindL kindOf ((p,w)::P.zip vs) m x=_;unfold bindL;exact aQ (i:=i) (List.nodup_cons.mp nd).2 (by simpa using h1) (by simpa using h2) hk
theorem aU {kindOf:Str->Option NameKind}{x:Str}{v:Value}:∀ {P:List Str}{vs:List Value}{i:Nat}{m:Str->Option Value},P.Nodup->P[i]?=some x->vs[i]?=some v->kindOf x≠some .local->
  bindC kindOf (P.zip vs) m x=some v
 | [],_,_,_,_,h,_,_=>by simp at h
 | _::_,[],_,_,_,_,h,_=>by simp at h
 | p::P,w::vs,0,m,nd,h1,h2,hk=>by
  simp at h1 h2;subst h1;subst h2;show bindC kindOf ((p,w)::P.zip vs) m p=_;unfold bindC;rw[aR λ v hv=>(List.nodup_cons.mp nd).1 (List.of_mem_zip hv).1,if_neg hk];simp
 | p::P,w::vs,i+1,m,nd,h1,h2,hk=>by
  show bindC kindOf ((p,w)::P.zip vs) m x=_;unfold bindC;exact aU (i:=i) (List.nodup_cons.mp nd).2 (by simpa using h1) (by simpa using h2) hk
noncomputable def start (N:List Str) (vs:List V):St:=vs.map some++List.replicate (N.length-vs.length) none
noncomputable def uC (CX:uG) (P:Program) (w:World) (K:PySem.W.Frag) (mg:Str->Option Value) (base:Heap) (N:List Str) (qual:Str) (scope:Scope) (f:Addr) (cd:Value) (A:Around) (outer:List Env) (s:Shared) (H:Hp) (E:XK):Cx where
 prog:=P
 w:=w
 K:=K
 mg:=mg
 base:=base
 A:=A.deeper (envOfC qual scope s.heap.objs.size f cd)
 N:=N
 s₀:=s
 H₀:=H
 env:=envOfC qual scope s.heap.objs.size f cd
 outer:=outer
 stack:=envOfC qual scope s.heap.objs.size f cd::outer
 ex:=[]
 calm:=true
 fn:=λ _=>true
 pn:=[]
 xe:=λ e s'=>wpAny (model P w) (A.deeper (envOfC qual scope s.heap.objs.size f cd)) (leaving (envOfC qual scope s.heap.objs.size f cd) e) (λ _ s''=>CX outer H s E e s'') (λ e' s''=>CX outer H s E e' s'') s'
theorem aH {sc:Scope}{n:Nat}{x:Str}(h:sc.names.lookup x=some .cell):∃ c,(cellsFrom n sc.names []).lookup x=some c:=by
 have q:=PySem.W.cellsFrom_some sc.names n [] (.inl h);exact Option.isSome_iff_exists.mp q
theorem TU {CX:uG}{P:Program}{w:World}{K:PySem.W.Frag}{mg:Str->Option Value}{base:Heap}{N ps:List Str}{qual:Str}{scope:Scope}{f:Addr}{cd:Value}{A:Around}{outer:List Env}{s s1:Shared}{H:Hp}{E:XK}{us:List Value}{vs:List V}
  (S:yp N ps scope) (hd:A.handled=none) (e0:kR P w K mg base A outer s H) (hl:vs.length=ps.length) (r:Vals vs us)
  (x:InCallC s s.heap.objs.size (bindL (envOfC qual scope s.heap.objs.size f cd).kindOf (ps.zip us) λ _=>none) (cellsFrom (s.heap.objs.size+1) scope.names []) (bindC (envOfC qual scope s.heap.objs.size f cd).kindOf (ps.zip us) λ _=>none) s1):
  Inv (uC CX P w K mg base N qual scope f cd A outer s H E) [] (start N vs) H s1:=by
 have hpl:ps.length<=N.length:=by have:=congrArg List.length S.pre;rw[List.length_take] at this;omega
 obtain⟨h1,tk,rfl,hk⟩:=x.done;have noA:∀ b:Addr,b∉(uC CX P w K mg base N qual scope f cd A outer s H E).ex:=λ b z=>absurd (show b∈([]:List Addr) from z) (by simp);refine⟨⟨e0.mod,S.kind,rfl,rfl,Nat.le_refl _,λ y z c h1 h2=>?_,λ y hy=>?_,λ y c _ h=>?_,λ _=>hd,Around.frames_deeper e0.frames,.inr ⟨rfl,rfl⟩,λ b z=>absurd z (noA b),e0.bs,e0.qc,λ b _ _=>noA b,λ b z=>absurd z (noA b),e0.u9,e0.pz⟩,
  rfl,e0.bare,Un.kept hk,⟨_,x.toInCall.ns,λ i y v h1 h2 h3=>?_⟩,λ y c h=>⟨_,x.cell y c h⟩,e0.zE.fresh (Nat.le_refl _),λ y c h=>?_,λ p hp=>absurd (show p∈([]:List (Addr×Obj)) from hp) (by simp),e0.zE.kept hk,?_⟩
 .exact name_of_addr x.apart (PySem.mem_of_lookup h1) (PySem.mem_of_lookup h2)
 .have hy:scope.names.lookup y=some .cell\/scope.names.lookup y=some .free:=hy;rcases hy with hy | hy
  .exact aH hy
  .exact absurd rfl (S.UG _ (PySem.mem_of_lookup hy))
 .exact Nat.le_of_lt (x.above y c (PySem.mem_of_lookup h))
 .have hi:i<vs.length:=by
   unfold start at h2;by_cases hi:i<vs.length
   .exact hi
   .rw[List.getElem?_append_right (by simpa using hi)] at h2;rw[List.getElem?_replicate] at h2;split at h2 <;> cases h2
  have ha:vs[i]?=some v:=by
   unfold start at h2;rw[List.getElem?_append_left (by simpa using hi),List.getElem?_map] at h2;cases e:vs[i]? with
   | none=>rw[e] at h2;cases h2
   | some a=>rw[e] at h2;cases h2;rfl
  obtain⟨u,hu,rv⟩:=r.get ha;have hp:ps[i]?=some y:=by
   rw[<- S.pre,List.getElem?_take_of_lt (by omega)];exact h1
  have ndP:ps.Nodup:=by rw[<- S.pre];exact S.nd.sublist (List.take_sublist _ _)
  refine⟨u,rv,?_⟩;rcases S.par y (List.mem_of_getElem? hp) with k | k
  .exact .inl ⟨k,aQ ndP hp hu k⟩
  .obtain⟨c,e⟩:=aH (n:=s.heap.objs.size+1) k;refine .inr ⟨.inl k,c,e,?_⟩;have q:=x.cell y c e;rw[aU ndP hp hu (by show scope.names.lookup y≠_;rw[k];decide)] at q;exact q
 .exact e0.zE.fresh (Nat.le_of_lt (x.above y c (PySem.mem_of_lookup h)))
 .unfold start;show _=N.length;rw[List.length_append,List.length_map,List.length_replicate];omega
theorem SF {CX:uG}{P:Program}{w:World}{K:PySem.W.Frag}{mg:Str->Option Value}{base:Heap}{k:Nat}{f:Addr}{name qual:Str}{params:Arguments}{body:List Stmt}{scope:Scope}{dV kV doc pm cdv ct oc:Value}{an od:Option Addr}
  {osl:Array (Option Value)}{N ps:List Str}{sp:Sp}(lk:K.lookup f=some ⟨oc,od,.func (PySem.W.fnOf name qual params body scope dV kV doc pm an cdv ct),osl⟩) (hcd:PySem.W.codeIn K cdv qual=true) (S:yp N ps scope)
  (len:∀ vs H Q E,sp vs H Q E->vs.length=ps.length)
  (hbody:∀ (A:Around) (outer:List Env) (s:Shared) (H:Hp) (vs:List V) (Q:VK) (E:XK),y9 k (A.deeper (envOfC qual scope s.heap.objs.size f cdv))->sp vs H Q E->
   ∃ t,x_ (uC CX P w K mg base N qual scope f cdv A outer s H E) body t/\t { nx:=λ _ H'=>Q .zk H',rt:=Q } (start N vs) H):
  vU P w K mg base CX (k+1) f (PySem.W.fnOf name qual params body scope dV kV doc pm an cdv ct) ps sp:=by
 refine⟨len,λ A outer s H args us vs Q E hr e0 hb r hsp=>?_⟩;have hl:=len _ _ _ _ hsp;have KX:K.In s.heap:=e0.mod.iV.keeps λ b o e=>(e0.bs b o e).1;have lim:s.heap.NoLimit:=e0.mod.nolimit.keeps λ b o e=>(e0.bs b o e).1;have hkind:∀ y∈ps.zip us,scope.names.lookup y.1=some .local\/(scope.names.lookup y.1=some .cell/\((cellsFrom (s.heap.objs.size+1) scope.names []).lookup y.1).isSome=true):=λ⟨n,v⟩ hy=>by
  rcases S.par n (List.of_mem_zip hy).1 with q | q
  .exact .inl q
  .exact .inr ⟨q,PySem.W.cellsFrom_some _ _ _ (.inl q)⟩
 refine codeAny_call_function hr.depth (KX _ _ lk) rfl S.co S.gen rfl (PySem.W.codeRec_of KX hcd) (hb _ _ _ _ ?_);refine wpAny_newFunctionEnv_cells S.kind hkind λ env he s1 x=>?_;subst he;refine⟨lim.keeps x.toInCall.keep,codeAny_func ?_⟩;obtain⟨t,ht,hq⟩:=hbody A outer s H vs Q E (hr.deeper _) hsp;have I:Inv (uC CX P w K mg base N qual scope f cdv A outer s H E) [] (start N vs) H s1:=TU S hr.hd e0 hl r x;refine wpAny_mono (ht [] s1 (start N vs) H _ I hq) (λ fl s' hs=>?_) λ e s' hs=>hs;have fin:∀ {σ':St}{H':Hp}{v:V}{u:Value},Inv (uC CX P w K mg base N qual scope f cdv A outer s H E) [] σ' H' s'->RelV v u->Q v H'->CE outer P w H s Q u s':=
  λ{σ' H' v u} J rv q=>⟨v,H',J.os,J.bare,J.base,J.zE,rv,q⟩
 cases fl with
 | ret u=>
  obtain⟨v,σ',H',J,rv,q⟩:=hs;exact fin J rv q
 | next=>
  obtain⟨σ',H',J,q⟩:=hs;exact fin (v:=V.zk) (u:=Value.none) J rfl q
 | brk=>
  obtain⟨_,_,_,q⟩:=hs;exact False.elim q
 | cont=>
  obtain⟨_,_,_,q⟩:=hs;exact False.elim q
end L2
namespace L2
open PySem PySem.Spec PyProof.Rows
section
variable {X:Cx}{x:Str}{p pos:Pos}{e:Expr}{es:List Expr}{t:TA}{id T:String}{r:List V->Hp->VK->Prop}
def mQ (r:List V->Hp->VK->Prop) (t:TA):TE:=fun σ H Q=>t σ H λ vs H1=>r vs H1 Q
theorem tB (hc:yK X (.builtin id) r) (hg:Gl X x) (hm:X.mg x=none) (hv:bootBuiltins x=some (.builtin id)) (ha:PA X (e::es) t) (hn:x≠"__name__":=by decide) (hdb:(x == ("__debug__":Str))=false:=by decide)
  (he:starEach (e::es) X.env=(false,eval e X.env)::starEach es X.env:=by rfl) (hpl:(backTo pos (starEach es X.env)).any (·.1)=false:=by rfl):PE X (.Call (.Name x p) (e::es) [] pos) (mQ r t):=by
 intro pins s σ H Q I h;refine wpAny_Call_Name_kw (qT I hg hm hv ?_ hn hdb);exact PyProof.Rows.callWith_builtin1 (zK (ha pos pins s σ H _ I h) λ us s1 ⟨vs,H1,I1,r1,q1⟩=>hc pins s1 σ H1 vs us Q I1 r1 q1) he hpl
theorem qI (hc:yK X (.type T) r) (hg:Gl X x) (hm:X.mg x=none) (hv:bootBuiltins x=some (.type T)) (ha:PA X (e::es) t) (hn:x≠"__name__":=by decide) (hdb:(x == ("__debug__":Str))=false:=by decide)
  (he:starEach (e::es) X.env=(false,eval e X.env)::starEach es X.env:=by rfl) (hpl:(backTo pos (starEach es X.env)).any (·.1)=false:=by rfl):PE X (.Call (.Name x p) (e::es) [] pos) (mQ r t):=by
 intro pins s σ H Q I h;refine wpAny_Call_Name_kw (qT I hg hm hv ?_ hn hdb);exact PyProof.Rows.callWith_type1 (zK (ha pos pins s σ H _ I h) λ us s1 ⟨vs,H1,I1,r1,q1⟩=>hc pins s1 σ H1 vs us Q I1 r1 q1) he hpl
end
end L2
namespace HT
open PySem PyProof.Rows
noncomputable def lexLt:List Int->List Int->Bool
 | [],[]=>false
 | [],_::_=>true
 | _::_,[]=>false
 | x::xs,y::ys=>if x=y then lexLt xs ys else decide (x<y)
theorem sP (x y:Int) (xs ys:List Int):lexLt (x::xs) (y::ys)=if x=y then lexLt xs ys else decide (x<y):=rfl
theorem Tf:lexLt [] []=false:=rfl
theorem Tg (y:Int) (ys:List Int):lexLt [] (y::ys)=true:=rfl
theorem Th (x:Int) (xs:List Int):lexLt (x::xs) []=false:=rfl
theorem S_ (A:Around) (s:Shared) (a:Int) (t:Tok) (c:Int) (u:Tok):∃ e,SeqAt.EqAt A s (.int a t) (.int c u) e/\(e=true↔a=c):=
 ⟨(a == c),SeqAt.EqAt.int_int a t c u,by simp⟩
theorem XA (A:Around) (s:Shared) (a:Int) (t:Tok) (c:Int) (u:Tok) (prog:Program) (w:World) (E:Value->Shared->Prop) (Q:Value->Shared->Prop) (h:Q (.bool (decide (a<c))) s):
  wpAny (model prog w) A (richCompare .Lt (.int a t) (.int c u)) Q E s:=
 (PyProof.Rows.lt_int h:wpAny (model prog w) A (compareOp .Lt (.int a t) (.int c u)) Q E s)
section
open PySem.SeqAt
open PySem.AutoSeq1 (wpAny_loadPart')
open PySem.MeetsSeq PySem.MeetsSeq2 PySem.MeetsSeq3
theorem Y6 (l b:Addr) (items items2:Array Value) (n n2:Nat) (dd dd2:Option Addr) (sl sl2:Array (Option Value)) (ns ms:List Int) (hi:IntsAre items.toList ns) (hj:IntsAre items2.toList ms):
  Meets (Builtin.«tuple.__lt__» ⟨[.ref l,.ref b],[]⟩)
   (λ _ R s=>s.heap.get? l=some { cls:=.type "tuple",dict:=dd,data:=.seq items n,slots:=sl }/\s.heap.get? b=some { cls:=.type "tuple",dict:=dd2,data:=.seq items2 n2,slots:=sl2 }/\
    R (.ok (.ret (.bool (lexLt ns ms)))) s):=
 .of_wp λ prog w A R s h=>by
  obtain⟨hp,g,d,tk,os⟩:=s;obtain⟨hl,hb,h⟩:=h;have f2:=AutoSeq1.sub_tuple_tuple;have z1:items.size=ns.length:=by rw[<- hi.length];simp
  have z2:items2.size=ms.length:=by rw[<- hj.length];simp
  wp_walk using wpAny_loadPart' hl,wpAny_loadPart' hb,wpAny_forIn_list _ (λ rest b s'=>b.1=none/\s'=⟨hp,g,d,tk,os⟩/\∃ (vs ws:List Value) (ns' ms':List Int),rest=vs.zip ws/\
   IntsAre vs ns'/\IntsAre ws ms'/\ns'.length+items2.size=ms'.length+items.size/\R (.ok (.ret (.bool (lexLt ns' ms')))) ⟨hp,g,d,tk,os⟩) _
  case turn=>
   rintro⟨y,x⟩ rest b s' ⟨hb',rfl,vs,ws,ns',ms',hz,hvi,hwi,hlen,hR⟩;cases hvi with
   | nil=>rw[List.zip_nil_left] at hz;cases hz
   | cons a t hvi'=>
    cases hwi with
    | nil=>rw[List.zip_nil_right] at hz;cases hz
    | cons c u hwi'=>
     rw[List.zip_cons_cons] at hz
     injection hz with hyx hrest
     injection hyx with hy hx
     subst hy hx;rw[sP] at hR;simp only[List.length_cons] at hlen;obtain⟨e,he,hiff⟩:=S_ A.in1 ⟨hp,g,d,tk,os⟩ a t c u;refine zWb (he prog w _ _ ?_);cases e with
     | true=>
      rw[if_pos (hiff.mp rfl)] at hR
      wp_walk
      exact⟨rfl,rfl,_,_,_,_,hrest,hvi',hwi',by omega,hR⟩
     | false=>
      rw[if_neg (λ q=>absurd (hiff.mpr q) Bool.false_ne_true)] at hR;have hri:=XA A.in1 ⟨hp,g,d,tk,os⟩ a t c u prog w
      wp_walk using hri
      exact⟨_,rfl,by simpa using hR⟩
  case fin=>
   rintro⟨b1,b2⟩ s' ⟨hb',rfl,vs,ws,ns',ms',hz,hvi,hwi,hlen,hR⟩;simp only at hb';subst hb';have hv:lexLt ns' ms'=decide (items.size<items2.size):=by
    cases hvi with
    | nil=>
     cases hwi with
     | nil=>
      simp only[List.length_nil] at hlen;rw[Tf];exact (decide_eq_false (by omega)).symm
     | cons c u hw=>
      simp only[List.length_nil,List.length_cons] at hlen;rw[Tg];exact (decide_eq_true (by omega)).symm
    | cons a t hv=>
     cases hwi with
     | nil=>
      simp only[List.length_nil,List.length_cons] at hlen;rw[Th];exact (decide_eq_false (by omega)).symm
     | cons c u hw=>
      rw[List.zip_cons_cons] at hz;cases hz
   rw[hv] at hR
   wp_walk
   exact⟨_,rfl,by simpa [Builtin.Tuple.tupleCompareSizes] using hR⟩
  case h=>
   exact⟨rfl,rfl,items.toList,items2.toList,ns,ms,rfl,hi,hj,by omega,h⟩
end
section
variable {prog:Program}{w:World}{A:Around}{E:Value->Shared->Prop}{s:Shared}
theorem UZ {l b:Addr}{items items2:Array Value}{ns ms:List Int}{Q:Value->Shared->Prop}(hl:IsTup s.heap l items) (hb:IsTup s.heap b items2) (hi:IntsAre items.toList ns) (hj:IntsAre items2.toList ms)
  (hu:A.units<cLine) (h:Q (.bool (lexLt ns ms)) s):wpAny (model prog w) A (compareOp .Lt (.ref l) (.ref b)) Q E s:=by
 obtain⟨⟨cls,dd,data,sl⟩,ho,hc,n,hd⟩:=id hl;obtain⟨⟨cls2,dd2,data2,sl2⟩,ho2,hc2,n2,hd2⟩:=id hb;simp only at hc hd hc2 hd2;subst hc hd hc2 hd2;exact richCompare_meets_room (op:=.Lt) ⟨_,ho,rfl⟩ ⟨_,ho2,rfl⟩ PySem.F.slot_tuple_lt PySem.F.entry_tuple_lt (PySem.F.args_tuple_lt_2 _ _) (Y6 l b items items2 n n2 dd dd2 sl sl2 ns ms hi hj)
  ⟨ho,ho2,show Value.bool (lexLt ns ms)≠Value.notImplemented/\Q (.bool (lexLt ns ms)) s from ⟨(λ x=>nomatch x),h⟩⟩ hu
theorem RD {t b:Addr}{vs ws:List Value}{Q:Value->Shared->Prop}(ht:IsTup s.heap t vs.toArray) (hb:IsTup s.heap b ws.toArray) (hv:vs≠[])
  (h1:ws=[]->Q (.ref t) s) (h2:ws≠[]->Q (.ref s.heap.objs.size) { s with heap:=s.heap.push { cls:=.type "tuple",data:=.seq (vs++ws).toArray } })
  (hsz:vs.length+ws.length<=sizeLine):wpAny (model prog w) A (binaryOp .Add (.ref t) (.ref b)) Q E s:=by
 obtain⟨⟨cls,dd,data,sl⟩,ho,hc,n,hd⟩:=id ht;obtain⟨⟨cls2,dd2,data2,sl2⟩,ho2,hc2,n2,hd2⟩:=id hb;simp only at hc hd hc2 hd2;subst hc hd hc2 hd2;have e:vs.toArray++ws.toArray=(vs++ws).toArray:=by simp
 by_cases hw:ws=[]
 .exact concat_meets ⟨_,ho,rfl⟩ ⟨_,ho2,rfl⟩ noFill_tuple_add seq_tuple_add PySem.F.slot_tuple_add PySem.F.entry_tuple_add (PySem.F.args_tuple_add_2 _ _)
   (tuple_addW1 t b vs.toArray ws.toArray n n2 dd dd2 sl sl2 (by simpa using hv) (by simp[hw])) ⟨ho,ho2,h1 hw⟩
 .refine concat_meets ⟨_,ho,rfl⟩ ⟨_,ho2,rfl⟩ noFill_tuple_add seq_tuple_add PySem.F.slot_tuple_add PySem.F.entry_tuple_add (PySem.F.args_tuple_add_2 _ _)
   (tuple_addW2 t b vs.toArray ws.toArray n n2 dd dd2 sl sl2 (by simpa using hv) (by simpa using hw) (by rw[List.size_toArray,List.size_toArray];exact hsz)) ⟨ho,ho2,?_⟩
  rw[e];exact h2 hw
end
end HT
namespace L2
open PySem PySem.Spec PyProof.Rows
theorem intsAre_of {ns:List Int}:∀ {us:List Value},Vals (ns.map V.int) us->IntsAre us ns:=by
 induction ns with
 | nil=>intro us r;rw[List.map_nil] at r;cases r;exact .nil
 | cons n ns ih=>
  intro us r;rw[List.map_cons] at r;cases r with
  | cons r1 r2=>
   obtain⟨t,e⟩:=r1;subst e;exact .cons n t (ih r2)
section
variable {X:Cx}{e:Expr}{te:TE}{lo hi:Option Expr}{tl th:TO}{pos p2:Pos}
def jY (K:PySem.W.Frag):R2:=λ x y H Q=>∃ a b ns ms,x=.ref a/\y=.ref b/\yb K H a (ns.map V.int)/\yb K H b (ms.map V.int)/\Q (.bl (HT.lexLt ns ms)) H
theorem V8 (hu:X.A.units<cLine):yr X (compareOp .Lt) (jY X.K):=by
 intro pins s σ H x y v u Q I rx ry h;obtain⟨a,b,ns,ms,rfl,rfl,ha,hb,q⟩:=h;cases rx;cases ry;obtain⟨its,r1,p1,_⟩:=I.tuple ha;obtain⟨its2,r2,p2,_⟩:=I.tuple hb;have i1:IntsAre its.toArray.toList ns:=intsAre_of r1;have i2:IntsAre its2.toArray.toList ms:=intsAre_of r2;exact HT.UZ p1 p2 i1 i2 hu ⟨.bl (HT.lexLt ns ms),H,I,rfl,q⟩
def dv (K:PySem.W.Frag):R2:=λ x y H Q=>∃ a b xs ys,x=.ref a/\y=.ref b/\yb K H a xs/\yb K H b ys/\xs≠[]/\xs.length+ys.length<=sizeLine/\
 (ys=[]->Q (.ref a) H)/\(ys≠[]->∀ p,H p=none->Q (.ref p) (upd H p (.tup (xs++ys))))
theorem Vals.oS {xs:List V}{us:List Value}(r:Vals xs us):us=[]↔xs=[]:=by
 cases r with
 | nil=>simp
 | cons _ _=>simp
theorem VG:yr X (binaryOp .Add) (dv X.K):=by
 intro pins s σ H x y v u Q I rx ry h;obtain⟨a,b,xs,ys,rfl,rfl,ha,hb,hx,hz,q1,q2⟩:=h;cases rx;cases ry;obtain⟨its,r1,p1,_⟩:=I.tuple ha;obtain⟨its2,r2,p2,_⟩:=I.tuple hb;refine HT.RD p1 p2 (λ z=>hx (r1.oS.mp z)) (λ z=>⟨.ref a,H,I,rfl,q1 (r2.oS.mp z)⟩) (λ z=>?_) (by rw[<- r1.length,<- r2.length];exact hz);refine⟨.ref s.heap.objs.size,_,I.laid (t':=s.toks) (o:=.tup (xs++ys)) (λ b ob q=>zHp _ q) (Nat.le_refl _) ?_,rfl,q2 (λ w=>z (r2.oS.mpr w)) _ (I.zE.fresh (Nat.le_refl _))⟩;exact⟨by rw[List.length_append];exact hz,_,r1.append r2,IsTup.new _ _⟩
end
end L2
namespace L2
open PySem PySem.Spec PyProof.Rows
noncomputable def va (n:Nat) (i:Int):Option Nat:=if 0<=i then (if i<n then some i.toNat else none) else if -(n:Int)<=i then some (i+n).toNat else none
noncomputable def yd {α:Type}(xs:List α) (i:Int):Option α:=(va xs.length i).bind λ j=>xs[j]?
theorem cV {n:Nat}{i:Int}{j:Nat}(h:va n i=some j):seqIndex? i n=some j/\j<n/\-(n:Int)<=i/\i<n:=by
 unfold va at h;by_cases h0:0<=i
 .rw[if_pos h0] at h;by_cases h1:i<n
  .rw[if_pos h1] at h;have e:i.toNat=j:=Option.some.inj h;exact⟨by rw[seqIndex_of h0 h1,e],by omega,by omega,h1⟩
  .rw[if_neg h1] at h;cases h
 .rw[if_neg h0] at h;by_cases h1:-(n:Int)<=i
  .rw[if_pos h1] at h;have e:(i+n).toNat=j:=Option.some.inj h;exact⟨by rw[seqIndex_neg (by omega) h1,e],by omega,h1,by omega⟩
  .rw[if_neg h1] at h;cases h
theorem gI {α:Type}{xs:List α}{i:Int}{v:α}(h:yd xs i=some v):∃ j,seqIndex? i xs.length=some j/\xs[j]?=some v/\j<xs.length/\-(xs.length:Int)<=i/\i<xs.length:=by
 unfold yd at h;cases e:va xs.length i with
 | none=>rw[e] at h;cases h
 | some j=>
  rw[e] at h;obtain⟨h1,h2,h3,h4⟩:=cV e;exact⟨j,h1,h,h2,h3,h4⟩
theorem kC {α:Type}(xs:List α) (v:α):yd (xs++[v]) (-1)=some v:=by
 have hl:(xs++[v]).length=xs.length+1:=by simp
 have e:va (xs++[v]).length (-1)=some xs.length:=by
  unfold va;rw[hl,if_neg (by decide),if_pos (by omega)];congr 1;omega
 unfold yd;rw[e];show (xs++[v])[xs.length]?=some v;simp
def Zd (b:Expr):Prop:=∀ o i,subscripted b false o i=operate [o,i] (getItem o i)
def t_ (X:Cx) (r:R2):Prop:=
 ∀ (value slice:Expr) (pins:List (Addr×Obj)) (s:Shared) (σ:St) (H:Hp) (x y:V) (v u:Value) (Q:VK),Inv X pins σ H s->RelV x v->RelV y u->r x y H Q->
  subscripted slice false v u=operate [v,u] (getItem v u)->wpAny (model X.prog X.w) X.A (subscriptTail value slice v u) (EP X pins σ Q) X.xe s
def Zg (X:Cx) (id:String) (r:V->List V->Hp->VK->Prop):Prop:=
 ∀ (pins:List (Addr×Obj)) (s:Shared) (σ:St) (H:Hp) (x:V) (xs:List V) (v:Value) (us:List Value) (Q:VK),Inv X pins σ H s->RelV x v->Vals xs us->r x xs H Q->
  wpAny (model X.prog X.w) X.A (call (.builtin id) (v::us)) (EP X pins σ Q) X.xe s
section
variable {X:Cx}{a b:Expr}{ta tb:TE}{pos:Pos}
theorem t_.or {r r':R2}(h:t_ X r) (h':t_ X r'):t_ X (λ x y H Q=>r x y H Q\/r' x y H Q):=by
 intro value slice pins s σ H x y v u Q I rx ry q hs;rcases q with q | q
 .exact h value slice pins s σ H x y v u Q I rx ry q hs
 .exact h' value slice pins s σ H x y v u Q I rx ry q hs
theorem WA {r:R2}(hr:t_ X r) (ha:PE X a ta) (hb:PE X b tb) (hs:Zd b):PE X (.Subscript a b pos) (p_ r ta tb):=by
 intro pins s σ H Q I h;exact Subscript_ (gF ha hb I h λ v u s2 x y H2 I2 rx ry q=>hr a b pins s2 σ H2 x y v u Q I2 rx ry q (hs _ _))
def di (K:PySem.W.Frag):R2:=λ x y H Q=>∃ p xs i v,x=.ref p/\y=.int i/\zQ K H p xs/\yd xs i=some v/\Q v H
def dg (K:PySem.W.Frag):R2:=λ x y H Q=>∃ p xs i v,x=.ref p/\y=.int i/\yb K H p xs/\yd xs i=some v/\Q v H
def dh:R2:=λ x y H Q=>∃ z i c,x=.str z/\y=.int i/\z.length<=sizeLine/\yd z.cps.toList i=some c/\Q (.str ⟨#[c]⟩) H
theorem TF:t_ X (di X.K):=by
 intro value slice pins s σ H x y v u Q I rx ry h hs;obtain⟨p,xs,i,z,rfl,rfl,hq,he,q⟩:=h;cases rx;obtain⟨t,rfl⟩:=ry;obtain⟨its,r,pl,hz⟩:=I.list hq;obtain⟨j,h1,h2,h3,h4,h5⟩:=gI he;obtain⟨w,ew,rw'⟩:=r.get h2;have hl:=r.length;have hn:=rQ;have fin:EP X pins σ Q w s:=⟨z,H,I,rw',q⟩
 by_cases h0:0<=i
 .have hj:i.toNat=j:=by
   rw[seqIndex_of h0 h5] at h1;exact Option.some.inj h1
  exact item_listR pl.isList h0 (by omega) (by rw[hj];simpa using ew) fin hs
 .have hj:(i+(its.toArray.size:Int)).toNat=j:=by
   rw[seqIndex_neg (by omega) h4] at h1;rw[List.size_toArray,<- hl];exact Option.some.inj h1
  exact subscriptTail_builtinR (x:=w) pl.isList.typeIs slot_list_getitem.lookup
   (wpAny_getItem_list_neg (Q:=λ r s'=>r=w/\EP X pins σ Q r s') pl.isList (by omega) (by rw[List.size_toArray] <;> omega) (by omega) (by rw[hj];simpa using ew) ⟨rfl,fin⟩) hs
theorem T9:t_ X (dg X.K):=by
 intro value slice pins s σ H x y v u Q I rx ry h hs;obtain⟨p,xs,i,z,rfl,rfl,hq,he,q⟩:=h;cases rx;obtain⟨t,rfl⟩:=ry;obtain⟨its,r,pl,hz⟩:=I.tuple hq;obtain⟨j,h1,h2,h3,h4,h5⟩:=gI he;obtain⟨w,ew,rw'⟩:=r.get h2;have hl:=r.length;have hn:=rQ;have fin:EP X pins σ Q w s:=⟨z,H,I,rw',q⟩
 exact subscriptTail_builtinR (x:=w) pl.typeIs slot_tuple_getitem.lookup
  (getItem_tuple (j:=j) (Q:=λ r s'=>r=w/\EP X pins σ Q r s') pl (by omega) (by omega) (by rw[List.size_toArray,<- hl];exact h1) (by simpa using ew) ⟨rfl,fin⟩) hs
theorem TB:t_ X dh:=by
 intro value slice pins s σ H x y v u Q I rx ry h hs;obtain⟨z,i,c,rfl,rfl,hz,he,q⟩:=h;obtain⟨t,rfl⟩:=rx;obtain⟨t',rfl⟩:=ry;obtain⟨j,h1,h2,h3,h4,h5⟩:=gI he;have hl:z.cps.toList.length=z.length:=by simp[Str.length]
 rw[hl] at h1 h4 h5;have hn:=rQ;exact tail_any (typeIs_str s z t) slot_str_getitem.lookup (getItem_str (c:=c) (by
  have e1:decide (i < -(2 ^ 63:Int))=false:=decide_eq_false (by omega);have e2:decide (i≥2 ^ 63)=false:=decide_eq_false (by omega);rw[e1,e2,Bool.or_false]) (by rw[h1];simpa using h2) ⟨.str ⟨#[c]⟩,H,I.tok _,⟨_,rfl⟩,q⟩) hs
def dk (K:PySem.W.Frag):R2:=λ x y H Q=>di K x y H Q\/dg K x y H Q\/dh x y H Q
theorem TC:t_ X (dk X.K):=TF.or (T9.or TB)
theorem UY (its:List Value) (n j:Nat) (u:Value):Obj.mapSeq (·.setIfInBounds j u) { cls:=.type "list",data:=.seq its.toArray n }={ cls:=.type "list",data:=.seq (its.set j u).toArray n }:=by
 simp[Obj.mapSeq]
theorem Inv.lst {pins:List (Addr×Obj)}{σ:St}{H:Hp}{s:Shared}{p:Addr}{xs:List V}(I:Inv X pins σ H s) (h:H p=some (.lst xs)):
  ∃ (its:List Value) (n:Nat),Vals xs its/\s.heap.get? p=some { cls:=.type "list",data:=.seq its.toArray n }/\xs.length<=sizeLine:=by
 obtain⟨z,its,n,r,e⟩:=I.zE p _ h;exact⟨its,n,r,e,z⟩
theorem Inv.U_ {pins:List (Addr×Obj)}{σ:St}{H:Hp}{s:Shared}{p:Addr}{xs ys:List V}{its its':List Value}{n n':Nat}{f:Obj->Obj}(I:Inv X pins σ H s) (h:H p=some (.lst xs))
  (ho:s.heap.get? p=some { cls:=.type "list",data:=.seq its.toArray n }) (hf:f { cls:=.type "list",data:=.seq its.toArray n }={ cls:=.type "list",data:=.seq its'.toArray n' }) (r:Vals ys its') (hz:ys.length<=sizeLine) (t:Nat):
  Inv X pins σ (upd H p (.lst ys)) { s with heap:=s.heap.update p f,toks:=t }:=by
 have e:(s.heap.update p f).get? p=some { cls:=.type "list",data:=.seq its'.toArray n' }:=by
  rw[Heap.get?_update_self f ho (by rw[hf] <;> rfl),hf]
 refine I.write (x:=p) (e:=p) (by rw[h];trivial) (.inl rfl) (λ b u hb q=>(Heap.get?_update_other _ _ (Ne.symm hb)).trans q) ⟨_,e⟩ ?_;exact⟨hz,its',n',r,e⟩
def XF:V->V->V->Hp->(Hp->Prop)->Prop:=λ o i v H Q=>∃ p xs k j,o=.ref p/\i=.int k/\H p=some (.lst xs)/\va xs.length k=some j/\Q (upd H p (.lst (xs.set j v)))
theorem set_list:Ze X XF:=by
 intro pins s σ H o i v ov iv u Q I ro ri rv h;obtain⟨p,xs,k,j,rfl,rfl,hp,hj,q⟩:=h;cases ro;obtain⟨t,rfl⟩:=ri;obtain⟨its,n,r,ho,hz⟩:=I.lst hp;obtain⟨h1,h2,h3,h4⟩:=cV hj;have hl:=r.length;have hn:=rQ;have I':Inv X pins σ (upd H p (.lst (xs.set j v))) { s with heap:=s.heap.update p (Obj.mapSeq (·.setIfInBounds j u)) }:=
  I.U_ hp ho (UY its n j u) (r.set rv j) (by rw[List.length_set];exact hz) s.toks
 by_cases h0:0<=k
 .have hk:k.toNat=j:=by
   rw[seqIndex_of h0 h4] at h1;exact Option.some.inj h1
  exact PySem.W.ki_setAt ho h0 (by omega) (by rw[List.size_toArray,<- hl];exact h4) (by rw[hk];exact⟨_,I',q⟩)
 .have hk:(k+(its.toArray.size:Int)).toNat=j:=by
   rw[seqIndex_neg (by omega) h3] at h1;rw[List.size_toArray,<- hl];exact Option.some.inj h1
  exact PySem.W.ki_setBack ho (by omega) (by rw[List.size_toArray,<- hl];exact h3) (by omega) (by rw[hk];exact⟨_,I',q⟩)
theorem RW:yK X (.builtin "len") (λ xs H Q=>∃ p ys,xs=[.ref p]/\(zQ X.K H p ys\/yb X.K H p ys)/\Q (.int ys.length) H):=by
 intro pins s σ H xs us Q I r h;obtain⟨p,ys,rfl,hq,q⟩:=h;obtain⟨u,rfl,rx⟩:=vals1 r;cases rx;have hn:=rQ;rcases hq with hq | hq
 .obtain⟨its,r',pl,hz⟩:=I.list hq;have hlen:=r'.length;exact Calls.call_len_list pl.isList (by simp only[List.size_toArray] <;> omega) ⟨.int ys.length,H,I.tok _,⟨s.toks+1,by rw[List.size_toArray,hlen]⟩,q⟩
 .obtain⟨its,r',pl,hz⟩:=I.tuple hq;have hlen:=r'.length;exact len_tuple pl (by simp only[List.size_toArray] <;> omega) ⟨.int ys.length,H,I.tok _,⟨s.toks+1,by rw[List.size_toArray,hlen]⟩,q⟩
theorem RV:yK X (.builtin "len") (λ xs H Q=>∃ z,xs=[.str z]/\z.length<=sizeLine/\Q (.int z.length) H):=by
 intro pins s σ H xs us Q I r h;obtain⟨z,rfl,hz,q⟩:=h;obtain⟨u,rfl,t,rfl⟩:=vals1 r;have hn:=rQ;exact len_str (by omega) ⟨.int z.length,H,I.tok _,⟨_,rfl⟩,q⟩
theorem yK.or {f:Value}{r r':List V->Hp->VK->Prop}(h:yK X f r) (h':yK X f r'):yK X f (λ xs H Q=>r xs H Q\/r' xs H Q):=by
 intro pins s σ H xs us Q I rs q;rcases q with q | q
 .exact h pins s σ H xs us Q I rs q
 .exact h' pins s σ H xs us Q I rs q
theorem RT:yK X (.type "list") (λ xs H Q=>∃ p ys,xs=[.ref p]/\(zQ X.K H p ys\/yb X.K H p ys)/\∀ l,H l=none->Q (.ref l) (upd H l (.lst ys))):=by
 intro pins s σ H xs us Q I r h;obtain⟨p,ys,rfl,hq,q⟩:=h;obtain⟨u,rfl,rx⟩:=vals1 r;cases rx;have fin:∀ (its:List Value),Vals ys its->ys.length<=sizeLine->∀ (h':Heap) (c':Nat),(∀ b o',s.heap.get? b=some o'->h'.get? b=some o')->
   h'.get? s.heap.objs.size=some { cls:=.type "list",dict:=none,data:=.seq its.toArray c',slots:=#[] }->EP X pins σ Q (.ref s.heap.objs.size) { s with heap:=h' }:=λ its r' hz h' c' kp e=>
  ⟨.ref s.heap.objs.size,_,I.laid (t':=s.toks) kp (Nat.le_refl _) (show xm X.prog X.w _ h' _ (.lst ys) from ⟨hz,its,c',r',e⟩),rfl,q _ (I.zE.fresh (Nat.le_refl _))⟩
 rcases hq with hq | hq
 .obtain⟨its,r',pl,hz⟩:=I.list hq;have hlen:=r'.length;obtain⟨o,ho,hc,n,hd⟩:=pl.isList;exact call_list_seq p (.inl rfl) ho hc hd (λ h' c' kp e=>fin its r' hz h' c' kp e) (by simp only[List.size_toArray] <;> omega)
 .obtain⟨its,r',pl,hz⟩:=I.tuple hq;have hlen:=r'.length;obtain⟨o,ho,hc,n,hd⟩:=pl;exact call_list_seq p (.inr rfl) ho hc hd (λ h' c' kp e=>fin its r' hz h' c' kp e) (by simp only[List.size_toArray] <;> omega)
theorem RE:yK X (.type "tuple") (λ xs H Q=>∃ p ys,xs=[.ref p]/\((zQ X.K H p ys/\∀ l,H l=none->Q (.ref l) (upd H l (.tup ys)))\/(yb X.K H p ys/\Q (.ref p) H))):=by
 intro pins s σ H xs us Q I r h;obtain⟨p,ys,rfl,h⟩:=h;obtain⟨u,rfl,rx⟩:=vals1 r;cases rx;rcases h with ⟨hq,q⟩ | ⟨hq,q⟩
 .obtain⟨its,r',pl,hz⟩:=I.list hq;have hlen:=r'.length;refine call_tuple_list pl.isList (λ h' kp=>?_) (by simp only[List.size_toArray] <;> omega);have I1:Inv X pins σ H { s with heap:=h' }:=I.kept (t':=s.toks) kp;have I2:Inv X pins σ (upd H h'.objs.size (.tup ys)) { s with heap:=h'.push { cls:=.type "tuple",data:=.seq its.toArray } }:=
   I1.laid (t':=s.toks) (λ b o e=>zHp _ e) (Nat.le_refl _) (show xm X.prog X.w _ _ _ (.tup ys) from ⟨hz,its,r',IsTup.new _ _⟩)
  exact⟨.ref h'.objs.size,_,I2,rfl,q _ (I1.zE.fresh (Nat.le_refl _))⟩
 .obtain⟨its,r',pl,hz⟩:=I.tuple hq;exact call_tuple_same pl ⟨.ref p,H,I,rfl,q⟩
def jd (K:PySem.W.Frag) (T:String) (x:V) (H:Hp):Prop:=match x with
 | .str _=>T="str"
 | .int _=>T="int"
 | .ref p=>(T="list"/\∃ xs,zQ K H p xs)\/(T="tuple"/\∃ o,K.lookup p=some o/\o.cls=.type "tuple"/\o.dict=none)\/
   (T="dict"/\((∃ kvs,H p=some (.dK kvs))\/∃ kvs,H p=some (.dT kvs)))\/(T="set"/\∃ S n,H p=some (.set S n))
 | _=>False
theorem et {pins:List (Addr×Obj)}{σ:St}{H:Hp}{s:Shared}{T:String}{x:V}{v:Value}(I:Inv X pins σ H s) (r:RelV x v) (ty:jd X.K T x H):
  s.TypeIs v T/\∀ a,v=.ref a->∃ ob,s.heap.get? a=some ob/\ob.dict=none:=by
 cases x with
 | str z=>
  obtain⟨t,rfl⟩:=r;cases (show T="str" from ty);exact⟨typeIs_str s z t,λ _ e=>nomatch e⟩
 | int i=>
  obtain⟨t,rfl⟩:=r;cases (show T="int" from ty);exact⟨typeIs_int s i t,λ _ e=>nomatch e⟩
 | ref p=>
  cases r;rcases ty with ⟨rfl,xs,hq⟩ | ⟨rfl,o,hk,hc,hd⟩ | ⟨rfl,hk⟩ | ⟨rfl,S,n,hk⟩
  .obtain⟨its,_,pl,_⟩:=I.list hq;refine⟨pl.isList.typeIs,λ a e=>?_⟩;cases e;obtain⟨o,n,e,c,hd,_⟩:=pl;exact⟨o,e,hd⟩
  .refine⟨⟨o,I.vB p o hk,hc⟩,λ a e=>?_⟩;cases e;exact⟨o,I.vB _ o hk,hd⟩
  .have z:∃ o,s.heap.get? p=some o/\o.ExactDict:=by
    rcases hk with ⟨kvs,hk⟩ | ⟨kvs,hk⟩
    .obtain⟨_,_,_,_,o,_,_,e,ex,_⟩:=I.zE p _ hk;exact⟨o,e,ex⟩
    .obtain⟨_,_,_,_,o,_,_,e,ex,_⟩:=I.zE p _ hk;exact⟨o,e,ex⟩
   obtain⟨o,e,ex⟩:=z;refine⟨⟨o,e,ex.1⟩,λ a e2=>?_⟩;cases e2;exact⟨o,e,ex.2.1⟩
  .obtain⟨o,_,_,_,e,ex,_⟩:=I.zE p _ hk;refine⟨⟨o,e,ex.1⟩,λ a e2=>?_⟩;cases e2;exact⟨o,e,ex.2.1⟩
 | _=>exact False.elim ty
def eE (K:PySem.W.Frag) (T:String) (r:V->List V->Hp->VK->Prop) (to:TE):TE:=fun σ H Q=>to σ H λ x H1=>jd K T x H1/\r x [] H1 Q
def jk (K:PySem.W.Frag) (T:String) (r:V->List V->Hp->VK->Prop) (to:TE) (t:TA):TE:=fun σ H Q=>to σ H λ x H1=>jd K T x H1/\t σ H1 λ xs H2=>r x xs H2 Q
variable {o e:Expr}{es:List Expr}{to:TE}{t:TA}{name:Str}{apos cpos:Pos}{T id:String}{r:V->List V->Hp->VK->Prop}
theorem WL (pa:PlainAttrs T) (slot:Slot T name id) (hty:typeOf (.builtin id)=pure (.type "method_descriptor")) (hm:Zg X id r) (ho:PE X o to)
  (hbase:attributeBase o name X.env (eval o X.env)=eval o X.env:=by rfl) (hline:(apos.endLine == cpos.line)=true:=by rfl):PE X (.Call (.Attribute o name apos) [] [] cpos) (eE X.K T r to):=by
 intro pins s σ H Q I h;refine wpAny_Call_method0_late hbase hline (zK (ho pins s σ H _ I h) λ v s1 ⟨x,H1,I1,r1,ty,q1⟩=>?_);obtain⟨h1,h2⟩:=et I1 r1 ty;exact⟨T,id,pa,slot,hty,h1,h2,Calls.callWith_builtin rfl (PySem.evalArgs_none (hm pins s1 σ H1 x [] v [] Q I1 r1 .nil q1))⟩
theorem dI (pa:PlainAttrs T) (slot:Slot T name id) (hty:typeOf (.builtin id)=pure (.type "method_descriptor")) (hm:Zg X id r) (ho:PE X o to) (ha:PA X (e::es) t)
  (hbase:attributeBase o name X.env (eval o X.env)=eval o X.env:=by rfl)
  (hfew:((backTo cpos (starEach (e::es) X.env)).all (λ x=>!x.1)&&(backToKw cpos (keywordEach [] X.env)).all (λ x=>x.1.isSome)
   && decide ((e::es).length+([]:List Keyword).length+(if ([]:List Keyword).isEmpty then 0 else 1)<30))=true:=by rfl)
  (hline:(apos.endLine == cpos.line)=true:=by rfl) (hs:starEach (e::es) X.env=(false,eval e X.env)::starEach es X.env:=by rfl) (hplain:(backTo cpos (starEach es X.env)).any (·.1)=false:=by rfl):
  PE X (.Call (.Attribute o name apos) (e::es) [] cpos) (jk X.K T r to t):=by
 intro pins s σ H Q I h;refine wpAny_Call_method_late hbase hfew hline rfl (zK (ho pins s σ H _ I h) λ v s1 ⟨x,H1,I1,r1,ty,q1⟩=>?_);obtain⟨h1,h2⟩:=et I1 r1 ty;refine⟨T,id,pa,slot,hty,h1,h2,?_⟩;have hA:=ha cpos pins s1 σ H1 _ I1 q1;rw[hs] at hA ⊢;refine Calls.callWith_builtin (by show (false||(backTo cpos (starEach es X.env)).any (·.1))=false;rw[hplain] <;> rfl) (Calls.evalArgs_plain ?_);exact zK hA λ us s2 ⟨vs,H2,I2,r2,q2⟩=>hm pins s2 σ H2 x vs v us Q I2 r1 r2 q2
end
end L2
namespace L2
open PySem PySem.Spec PyProof.Rows
def gU (X:Cx) (id:String) (r:V->List V->Hp->VK->Prop):Prop:=
 ∀ (pins:List (Addr×Obj)) (s:Shared) (σ:St) (H:Hp) (x:V) (xs:List V) (v:Value) (us:List Value) (Q:VK),Inv X pins σ H s->RelV x v->Vals xs us->r x xs H Q->
  wpAny (model X.prog X.w) X.A (call (.builtin id) (v::us)) (EP X pins σ Q) X.xe s
theorem Vals.one:∀ {x:V}{us:List Value},Vals [x] us->∃ u,us=[u]/\RelV x u
 | _,_,.cons r .nil=>⟨_,rfl,r⟩
theorem Vals.zero:∀ {us:List Value},Vals [] us->us=[]
 | _,.nil=>rfl
theorem Vals.rep {xs:List V}{us:List Value}(h:Vals xs us):∀ k:Nat,Vals (List.replicate k xs).flatten (List.replicate k us).flatten
 | 0=>.nil
 | k+1=>by
  rw[List.replicate_succ,List.replicate_succ,List.flatten_cons,List.flatten_cons];exact Vals.append h (Vals.rep h k)
section
variable {X:Cx}{pins:List (Addr×Obj)}{σ:St}{H:Hp}{s:Shared}{l b:Addr}{xs ys zs:List V}
theorem Inv.iJ {its its':List Value}{n:Nat}{f:Array Value->Array Value}{t':Nat}(I:Inv X pins σ H s) (hH:H l=some (.lst xs))
  (e:s.heap.get? l=some { cls:=.type "list",data:=.seq its.toArray n }) (hf:f its.toArray=its'.toArray) (hv:Vals ys its') (hz:ys.length<=sizeLine):
  Inv X pins σ (upd H l (.lst ys)) { s with heap:=s.heap.update l (Obj.mapSeq f),toks:=t' }:=by
 have q:=PySem.IsL.update e f;rw[hf] at q;refine I.write (x:=l) (e:=l) (by rw[hH];exact trivial) (.inl rfl) (λ b' u hb hu=>(Heap.get?_update_other s.heap (Obj.mapSeq f) (Ne.symm hb)).trans hu) ⟨_,q⟩ ?_;exact⟨hz,its',_,hv,q⟩
theorem Inv.Tc {its:List Value}{t':Nat}(I:Inv X pins σ H s) (hv:Vals ys its) (hz:ys.length<=sizeLine):
  Inv X pins σ (upd H s.heap.objs.size (.lst ys)) { s with heap:=s.heap.push { cls:=.type "list",data:=.seq its.toArray },toks:=t' }:=
 I.laid (λ _ _ q=>zHp _ q) (Nat.le_refl _) ⟨hz,its,0,hv,Heap.get?_push_size _ rfl⟩
theorem Inv.fresh (I:Inv X pins σ H s):H s.heap.objs.size=none:=I.zE.fresh (Nat.le_refl _)
theorem Inv.lO (I:Inv X pins σ H s) (hH:H l=some (.lst xs)):xs.length<=sizeLine/\∃ (its:List Value) (n:Nat),Vals xs its/\xs.length=its.length/\s.heap.get? l=some { cls:=.type "list",data:=.seq its.toArray n }:=by
 obtain⟨z,its,n,r,e⟩:=I.zE l _ hH;exact⟨z,its,n,r,r.length,e⟩
theorem UD {n:Nat}(h:n<=sizeLine):Builtin.List.listTooLong n=false:=by
 unfold Builtin.List.listTooLong;exact decide_eq_false (by omega)
end
section
variable {X:Cx}
def d7:V->List V->Hp->VK->Prop:=λ x vs H Q=>∃ l xs y,x=.ref l/\vs=[y]/\H l=some (.lst xs)/\xs.length<sizeLine/\Q .zk (upd H l (.lst (xs++[y])))
theorem cA:gU X "list.append" d7:=by
 intro pins s σ H x vs v us Q I rx rv h;obtain⟨l,xs,y,rfl,rfl,hH,hz,q⟩:=h;cases rx;obtain⟨u,rfl,ru⟩:=rv.one;obtain⟨z,its,n,r,hl,e⟩:=I.lO hH;refine call_meets F.slot_list_append ⟨_,e,rfl⟩ F.entry_list_append (F.args_list_append_2 _ _) (PySem.list_append l its.toArray n u (by rw[List.size_toArray];omega)) ⟨e,?_⟩;refine⟨.zk,_,I.iJ (its':=its++[u]) hH e (by simp) (r.append (.cons ru .nil)) ?_,rfl,q⟩;rw[List.length_append,List.length_singleton];omega
def dn:V->List V->Hp->VK->Prop:=λ x vs H Q=>∃ l b xs zs,x=.ref l/\vs=[.ref b]/\H l=some (.lst xs)/\H b=some (.lst zs)/\xs.length+zs.length<=sizeLine/\Q .zk (upd H l (.lst (xs++zs)))
theorem UR:gU X "list.extend" dn:=by
 intro pins s σ H x vs v us Q I rx rv h;obtain⟨l,b,xs,zs,rfl,rfl,hH,hB,hz,q⟩:=h;cases rx;obtain⟨u,rfl,ru⟩:=rv.one;cases ru;obtain⟨z,its,n,r,hl,e⟩:=I.lO hH;obtain⟨z2,its2,n2,r2,hl2,e2⟩:=I.lO hB;have hsz:its.toArray.size+its2.toArray.size<=sizeLine:=by rw[List.size_toArray,List.size_toArray];omega
 have hlong:¬ (!its.toArray.isEmpty&&Builtin.List.listTooLong (its.toArray.size+its2.toArray.size))=true:=by
  rw[UD hsz,Bool.and_false];exact Bool.false_ne_true
 refine call_meets F.slot_list_extend ⟨_,e,rfl⟩ F.entry_list_extend (F.args_list_extend_2 _ _)
  (AutoSeq1.list_extend_list_list_0 l its.toArray n b its2.toArray n2 hlong (by rw[List.size_toArray];omega) (by omega)) ⟨e,e2,?_⟩
 refine⟨.zk,_,I.iJ (its':=its++its2) hH e (by simp) (r.append r2) ?_,rfl,q⟩;rw[List.length_append];omega
def dq:V->List V->Hp->VK->Prop:=λ x vs H Q=>∃ l xs,x=.ref l/\vs=[]/\H l=some (.lst xs)/\Q .zk (upd H l (.lst []))
theorem US:gU X "list.clear" dq:=by
 intro pins s σ H x vs v us Q I rx rv h;obtain⟨l,xs,rfl,rfl,hH,q⟩:=h;cases rx;have hus:=rv.zero;subst hus;obtain⟨z,its,n,r,hl,e⟩:=I.lO hH;refine call_meets F.slot_list_clear ⟨_,e,rfl⟩ F.entry_list_clear (F.args_list_clear_1 _) (AutoSeq1.list_clear_list_0 l its.toArray n (by rw[List.size_toArray];omega)) ⟨e,?_⟩;exact⟨.zk,_,I.iJ (its':=[]) (ys:=[]) hH e rfl .nil (Nat.zero_le _),rfl,q⟩
end
section
variable {prog:Program}{w:World}{A:Around}{E:Value->Shared->Prop}{s:Shared}
end
section
variable {X:Cx}
end
end L2
namespace Ym
open PySem PySem.W PySem.Calls PyProof.Rows
theorem TX {P:Params}{h:Heap}:∀ (ns:List Int) (vs:List Value),WellAll P h vs (ns.map WData.int)->IntsAre vs ns:=by
 intro ns
 induction ns with
 | nil=>
  intro vs w;rw[List.map_nil] at w;cases w;exact .nil
 | cons n ns ih=>
  intro vs w;rw[List.map_cons] at w;cases w with
  | cons a b=>
   cases a;exact .cons _ _ (ih _ b)
theorem Xk {l:OpenLaw}{n:Nat}(hn:l.most=some n) {P:Params}{h:Heap}{args:List WData}{vals:List Value}
  (hpre:l.row.toRowW.claim.pre args=true) (hwl:WellAll P h vals args):
  ∃ a vs ns,vals=[Value.ref a]/\args=[WData.list (ns.map WData.int)]/\h.get? a=some { cls:=.type "list",data:=.seq vs.toArray }/\IntsAre vs ns/\ns.length<=n:=by
 have hsh:WShape.hasAll [] args [.list .int]=true:=(pre_splitW hpre).1;have hc:l.pre.holds [] { args:=args }=true:=(pre_splitW hpre).2;obtain⟨d,r,rfl,h1,h2⟩:=hasAllW_cons hsh;obtain rfl:=hasAllW_nil h2;obtain⟨xs,rfl,h3⟩:=hasW_list h1;obtain⟨ns,rfl⟩:=items_int h3;have hlen:ns.length<=n:=by
  unfold OpenLaw.pre at hc;have h4:(WTm.not (.lt (.lit (.int (n:Int))) (.len (.arg 0)))).holds [] { args:=[.list (ns.map .int)] }=true:=by
   have h4:=(holds_andW hc).1;rw[hn] at h4;exact h4
  have h5:=condW_of h4 (w_not (w_lt w_lit (w_len_list (w_arg rfl))));rw[List.length_map] at h5;refine Nat.le_of_not_lt λ q=>?_;have q':(n:Int)<((ns.length:Nat):Int):=by omega
  first
   | (rw[decide_eq_true q'] at h5;exact absurd h5 (by decide))
   | (simp at h5;omega)
 cases hwl with
 | cons w1 w2=>
  cases w2;cases w1 with
  | list ho hall=>exact⟨_,_,ns,rfl,rfl,ho,TX ns _ hall,hlen⟩
theorem Wf (l:OpenLaw) (args:List WData):l.row.toRowW.claim.post args (.bool true) args=true:=
 postW_of (r:=l.row.toRowW) (X:=(true == true))
  (show WShape.has [] (.bool true) .bool=true by first | rfl | decide | simp[WShape.has,WShape.arms,WShape.armsAll])
  (show (WTm.eq .res (.lit (.bool true))).value [] { args:=args,res:=some (.bool true),after:=args }=some (.bool (true == true)) from w_eq_bool (w_res rfl) w_lit) rfl
theorem Qm {l:OpenLaw}{n:Nat}{q:Program}{loose:List Str}{XP:(Str->Option Value)->Heap->Prop}{YP:World->Heap->Prop}{d:DefRec}
  (hn:l.most=some n) (hdf:d.params.defaults=[])
  (call:∀ (w:World) (s₀ s₁:Shared) (mg mb:Str->Option Value) (fa:Addr) (o:Obj) (pm cd doc:Value) (a:Addr) (vs:List Value) (ns:List Int),
   Ground q loose [] XP w s₀ mg mb s₁.heap->YP w s₁.heap->
   s₁.heap.get? fa=some o->o.data=.func (docDef d.name d.params d.body d.scope pm cd doc)->s₁.heap.CodeRec cd d.name->mg d.name=some (.ref fa)->
   s₁.heap.get? a=some { cls:=.type "list",data:=.seq vs.toArray }->IntsAre vs ns->ns.length<=n->s₁.gens=#[]->
   codeAny (model l.prog w) callerA (.call (.ref fa) ⟨[.ref a],[]⟩) (λ r s'=>r=.ok (.ret (.bool true))/\OldK s₁.heap s'.heap/\s'.os=s₁.os/\AllBare s'.gens) s₁):
  WalkO q loose XP YP l.row.toRowW d [] (λ f vs=>PySem.call f vs):=by
 intro w s₀ s₁ mg mb G Y fa o pm cd doc dV kV ho hd hcd hD hmg hg args vals as hpre hlay hrd hwl hlo;obtain rfl:dV=.none:=Dflts.none hD hdf;obtain rfl:kV=.none:=Dflts.noKw hD;obtain⟨a,vs,ns,rfl,rfl,hobj,hints,hlen⟩:=Xk hn hpre hwl;refine enter_call (codeAny_mono (call w s₀ s₁ mg mb fa o pm cd doc a vs ns G Y ho (fd_plain hd) hcd hmg hobj hints hlen hg) λ r s' hq=>?_);obtain⟨rfl,h2,h3,h4⟩:=hq;exact⟨.inl ⟨.bool true,.bool true,[],rfl,λ _=>rfl,.bool true,Wf l _,λ _=>⟨List.Pairwise.nil,λ _ hm=>(nomatch hm)⟩⟩,h2,h3,h4⟩
section
variable {prog:Program}{w:World}{A:Around}{E:Value->Shared->Prop}{s:Shared}{K:Frag}
end
end Ym
namespace L2
open PySem PySem.Spec PyProof.Rows
theorem fY:∀ {vs:List Value}{ns:List Int},IntsAre vs ns->Vals (ns.map V.int) vs
 | _,_,.nil=>.nil
 | _,_,.cons n t h=>.cons ⟨t,rfl⟩ (fY h)
def kH (H:Hp):Prop:=∀ b,H b=none\/∃ o xs,H b=some (.wq o (.lst xs))
theorem Tv {P:Program}{w:World}{K:PySem.W.Frag}{mg mb:Str->Option Value}{CX:uG}{k:Nat}{fa a:Addr}{fd:FuncData}{x:Str}{sp:Sp}{s₁:Shared}{vs:List Value}{ns:List Int}
  (KX:K.In s₁.heap) (hns:s₁.heap.Ns mainGlobals mg) (hb:s₁.heap.Ns builtinsNs mb) (hbb:∀ x:Str,x≠"__name__"->mb x=bootBuiltins x) (hlim:s₁.heap.NoLimit) (hg:s₁.gens=#[])
  (ha:s₁.heap.get? a=some { cls:=.type "list",data:=.seq vs.toArray }) (hi:IntsAre vs ns) (hl:ns.length<=sizeLine) (hr:y9 k callerA)
  (F:∀ base:Heap,K.In base->base.Ns mainGlobals mg->vU P w K mg base CX k fa fd [x] sp) (hbind:∀ (s:Shared) (u:Value),BindsTo s fd ⟨[u],[]⟩ [(x,u)])
  (hsp:∀ H:Hp,kH H->zQ K H a (ns.map V.int)->sp [.ref a] H (λ v _=>v=.bl true) λ _ _ _=>False)
  (hCX:∀ H e s',CX [] H s₁ (λ _ _ _=>False) e s'->False):
  codeAny (model P w) callerA (.call (.ref fa) ⟨[.ref a],[]⟩) (λ r s'=>r=.ok (.ret (.bool true))/\OldK s₁.heap s'.heap/\s'.os=s₁.os/\AllBare s'.gens) s₁:=by
 have rv:=fY hi;have lenV:=hi.length;have core:∀ H:Hp,kH H->zQ K H a (ns.map V.int)->xb P w H s₁.heap->(∀ b,H b≠none->b=a)->(H a≠none->K.lookup a=none)->
   codeAny (model P w) callerA (.call (.ref fa) ⟨[.ref a],[]⟩) (λ r s'=>r=.ok (.ret (.bool true))/\OldK s₁.heap s'.heap/\s'.os=s₁.os/\AllBare s'.gens) s₁:=by
  intro H hO hS zE hA hK;have base_of:∀ {b:Addr}{o:Obj},s₁.heap.get? b=some o->H b=none->(tL s₁.heap H).get? b=some o:=λ e n=>Si e n;have noA:∀ {b:Addr}{o:Obj}{es:Array DictEntry}{ep:Nat},s₁.heap.get? b=some o->o.data=.dict es ep->H b=none:=λ{b o es ep} e d=>by
   cases q:H b with
   | none=>rfl
   | some u=>
    have e':b=a:=hA b (by rw[q];simp);subst e';rw[ha] at e;cases e;have d':Data.seq vs.toArray _=Data.dict es ep:=d;cases d'
  have nsK:∀ {b:Addr}{m:Str->Option Value},s₁.heap.Ns b m->(tL s₁.heap H).Ns b m:=λ{b m} ⟨o,es,ep,e,d,r⟩=>⟨o,es,ep,base_of e (noA e d),d,r⟩;have hKb:K.In (tL s₁.heap H):=λ b o e=>base_of (KX b o e) (by
   cases q:H b with
   | none=>rfl
   | some u=>
    have e':b=a:=hA b (by rw[q];simp);subst e';rw[hK (by rw[q];simp)] at e;cases e)
  have hM:Mod K mg (tL s₁.heap H):=⟨hKb,nsK hns,⟨mb,nsK hb,hbb⟩,let ⟨mc,h1,h2⟩:=hlim;⟨mc,nsK h1,h2⟩⟩
  have e0:kR P w K mg (tL s₁.heap H) callerA [] s₁ H:=⟨rfl,hM,λ b o e=>UC e,Nat.le_of_eq (Sh _ _),trivial,λ b hb=>absurd (show b∈([]:List Addr) from hb) (by simp),zE,.of_eq hg⟩
  refine codeAny_mono ((F _ hKb (nsK hns)).run callerA [] s₁ H ⟨[.ref a],[]⟩ [.ref a] [.ref a] _ _ hr e0 (hbind s₁ (.ref a)) (.cons rfl .nil) (hsp H hO hS)) λ r s' h=>?_;cases r with
  | error e=>exact (hCX H e s' h).elim
  | ok fl=>
   cases fl with
   | next=>exact False.elim h
   | brk=>exact False.elim h
   | cont=>exact False.elim h
   | ret u=>
    obtain⟨v,H',os,bare,un,hok',r',q⟩:=h;have q':v=.bl true:=q;subst q';obtain rfl:u=Value.bool true:=r';refine⟨rfl,OldK.of_keep λ b o e=>?_,os,bare⟩;cases q:H b with
    | none=>exact un.keep b o e q (by intro z;exact absurd (show b∈([]:List Addr) from z) (by simp)) (by simp)
    | some u=>
     rcases hO b with z | ⟨ob,xs,z⟩
     .rw[q] at z;cases z
     .have z2:=un.tN b ob _ z;obtain⟨e1,_⟩:=zE b _ z;obtain⟨e2,_⟩:=hok' b _ z2;rw[e] at e1;cases e1;exact e2
 cases hk:K.lookup a with
 | some o=>
  have e:=KX a o hk;rw[ha] at e;cases e;refine core (λ _=>none) (λ _=>.inl rfl) (.inr ⟨_,vs.toArray,_,hk,rfl,rfl,rfl,by rw[List.size_toArray,lenV];exact hl,by simpa using rv⟩) (λ b u z=>by have z':(none:Option HO)=some u:=z;cases z') (λ b z=>absurd rfl z) λ z=>absurd rfl z
 | none=>
  refine core (λ b=>if b=a then some (.wq { cls:=.type "list",data:=.seq vs.toArray } (.lst (ns.map V.int))) else none) (λ b=>?_) (.inl (.inr ⟨{ cls:=.type "list",data:=.seq vs.toArray },if_pos rfl⟩)) (λ b u z=>?_) (λ b z=>?_) λ _=>hk
  .by_cases hb:b=a
   .exact .inr ⟨_,_,if_pos hb⟩
   .exact .inl (if_neg hb)
  .by_cases hb:b=a
   .have z':=(if_pos hb).symm.trans z;cases z';subst hb;exact⟨ha,by rw[List.length_map];exact hl,vs,_,rv,ha⟩
   .have z':=(if_neg hb).symm.trans z;cases z'
  .by_cases hb:b=a
   .exact hb
   .exact absurd (if_neg hb) z
end L2
namespace L2
open PySem PySem.Spec PyProof.Rows
theorem Ys {l:PySem.W.OpenLaw}{n k:Nat}{q:Program}{loose:List Str}{XP:(Str->Option Value)->Heap->Prop}{YP:World->Heap->Prop}{d:DefRec}{K:Params->PySem.W.Frag}{CX:World->uG}{sp:World->Sp}{x:Str}
  (hn:l.most=some n) (hn2:n<=sizeLine) (hdf:d.params.defaults=[]) (hr:y9 k callerA)
  (hY:∀ (w:World) (h:Heap),YP w h->(K w.params).In h)
  (F:∀ (w:World) (mg:Str->Option Value) (fa:Addr) (h:Heap),(K w.params).In h->h.Ns mainGlobals mg->mg d.name=some (.ref fa)->
   ∃ fd:FuncData,(∀ (s:Shared) (u:Value),BindsTo s fd ⟨[u],[]⟩ [(x,u)])/\
    ∀ base:Heap,(K w.params).In base->base.Ns mainGlobals mg->vU l.prog w (K w.params) mg base (CX w) k fa fd [x] (sp w))
  (hsp:∀ (w:World) (H:Hp) (a:Addr) (ns:List Int),ns.length<=n->kH H->zQ (K w.params) H a (ns.map V.int)->sp w [.ref a] H (λ v _=>v=.bl true) λ _ _ _=>False)
  (hCX:∀ (w:World) (H:Hp) (s:Shared) (e:Value) (s':Shared),CX w [] H s (λ _ _ _=>False) e s'->False):
  PySem.W.WalkO q loose XP YP l.row.toRowW d [] (λ f vs=>PySem.call f vs):=by
 refine Ym.Qm hn hdf λ w s₀ s₁ mg mb fa o pm cd doc a vs ns G Y ho hd hcd hmg hobj hints hlen hg=>?_;have KX:=hY w _ Y;obtain⟨fd,hb,hF⟩:=F w mg fa _ KX G.T.g hmg;exact Tv KX G.T.g G.T.b G.T.builtins G.T.nolimit hg hobj hints (Nat.le_trans hlen hn2) hr hF hb (λ H hO hS=>hsp w H a ns hlen hO hS) λ H e s'=>hCX w H s₁ e s'
end L2
namespace L2
open PySem PySem.Spec PyProof.Rows
noncomputable def tR (s:Stmt):Arguments:=match s with
 | .FunctionDef _ a _ _ _ _ _ _ _ _=>a
 | _=>{ posonlyargs:=[],args:=[],vararg:=none,kwonlyargs:=[],kw_defaults:=[],kwarg:=none,defaults:=[] }
noncomputable def ve (s:Stmt):List Stmt:=match s with
 | .FunctionDef _ _ b _ _ _ _ _ _ _=>b
 | _=>[]
noncomputable def zJ (s:Stmt):Scope:=match s with
 | .FunctionDef _ _ _ _ _ _ sc _ _ _=>sc
 | _=>{ kind:=.function,names:=[],isGenerator:=false,isCoroutine:=false }
abbrev wX:uG:=λ _ _ _ _ _ _=>False
abbrev E0:XK:=λ _ _ _=>False
theorem Vy {X:Cx}:Passes wX X E0:=λ _ _ _ _ _ _ _ h=>h.elim
structure uz (K:PySem.W.Frag) (x qual:Str) (st:Stmt) (f:Addr) (fd:FuncData):Prop where
 ex:∃ (oc:Value) (od:Option Addr) (kV doc pm:Value) (an:Option Addr) (cdv ct:Value) (osl:Array (Option Value)),
  fd=PySem.W.fnOf x qual (tR st) (ve st) (zJ st) .none kV doc pm an cdv ct/\K.lookup f=some ⟨oc,od,.func fd,osl⟩/\PySem.W.codeIn K cdv qual=true
 kp:PySem.W.keepIn K (.ref f)=true
section
variable {P:Program}{w:World}{K:PySem.W.Frag}{mg:Str->Option Value}{base:Heap}
theorem uz.ok {x qual:Str}{st:Stmt}{f:Addr}{fd:FuncData}{N ps:List Str}{k:Nat}{sp:Sp}(F:uz K x qual st f fd) (S:yp N ps (zJ st)) (len:∀ vs H Q E,sp vs H Q E->vs.length=ps.length)
  (hbody:∀ (cdv:Value) (A:Around) (outer:List Env) (s:Shared) (H:Hp) (vs:List V) (Q:VK) (E:XK),y9 k (A.deeper (envOfC qual (zJ st) s.heap.objs.size f cdv))->sp vs H Q E->
   ∃ t,x_ (uC wX P w K mg base N qual (zJ st) f cdv A outer s H E).tJ (ve st) t/\t { nx:=λ _ H'=>Q .zk H',rt:=Q } (start N vs) H):vU P w K mg base wX (k+1) f fd ps sp:=by
 obtain⟨oc,od,kV,doc,pm,an,cdv,ct,osl,rfl,lk,hcd⟩:=F.ex;refine SF lk hcd S len λ A outer s H vs Q E hr hsp=>?_;obtain⟨t,h,q⟩:=hbody cdv A outer s H vs Q E hr hsp;exact⟨t,h.tJ,q⟩
theorem uz.binds {x qual:Str}{st:Stmt}{f:Addr}{fd:FuncData}{ps:List Str}(F:uz K x qual st f fd)
  (h:∀ (kV doc pm:Value) (an:Option Addr) (cdv ct:Value) (us:List Value),us.length=ps.length->bindArgs (PySem.W.fnOf x qual (tR st) (ve st) (zJ st) .none kV doc pm an cdv ct) ⟨us,[]⟩=pure (ps.zip us)):Binds K fd ps []:=by
 obtain⟨oc,od,kV,doc,pm,an,cdv,ct,osl,rfl,lk,hcd⟩:=F.ex;exact .all (h kV doc pm an cdv ct)
theorem bF {x qual:Str}{st:Stmt}{f:Addr}{oc:Value}{od an:Option Addr}{osl:Array (Option Value)}{kV doc pm cdv ct:Value}(l:K.lookup f=some ⟨oc,od,.func (PySem.W.fnOf x qual (tR st) (ve st) (zJ st) .none kV doc pm an cdv ct),osl⟩)
  (c:PySem.W.codeIn K cdv qual=true) (k:PySem.W.keepIn K (.ref f)=true):uz K x qual st f (PySem.W.fnOf x qual (tR st) (ve st) (zJ st) .none kV doc pm an cdv ct):=⟨⟨oc,od,kV,doc,pm,an,cdv,ct,osl,rfl,l,c⟩,k⟩
end
theorem i_ {A:Around}{k:Nat}(hr:y9 k A):A.units+1<cLine:=Nat.lt_of_le_of_lt (Nat.add_le_add_left (by decide:1<=64) _) hr.units
section
variable {X:Cx}
theorem pv (i:Nat) {x:Str}{pos:Pos}(hN:X.N[i]?=some x:=by rfl) (hv:gP X.env.scope x:=by first | exact Or.inl rfl | exact Or.inr (Or.inl rfl) | exact Or.inr (Or.inr rfl)) (hd:(x == ("__debug__":Str))=false:=by decide)
  (hcd:(x == ("__classdict__":Str))=false:=by decide):PE X (.Name x pos) (jg i):=Wz hN hv hd hcd
end
end L2
namespace PySem
theorem gC {env:Env}:∀ (l:List (Str×NameKind)) (acc:List (Str×Addr)),(∀ y∈l,y.2=.free->∃ c,env.cells.lookup y.1=some c)->
  ∃ cl,(forIn l acc (λ(x:Str×NameKind) r=>if (x.2 == NameKind.free)=true then do let a <- cellOf env x.1;pure (ForInStep.yield ((x.1,a)::r)) else pure (ForInStep.yield r)):Sem (List (Str×Addr)))=pure cl/\
   (∀ x c,cl.lookup x=some c->acc.lookup x=some c\/((x,NameKind.free)∈l/\env.cells.lookup x=some c))/\(∀ x,(x,NameKind.free)∈l\/(acc.lookup x).isSome->(cl.lookup x).isSome)
 | [],acc,_=>⟨acc,rfl,λ x c h=>.inl h,λ x h=>by simpa using h⟩
 | (n,k)::l,acc,h=>by
  by_cases hk:k=.free
  .subst hk;obtain⟨c,hc⟩:=h (n,.free) zMc rfl;obtain⟨cl,e1,e2,e3⟩:=gC l ((n,c)::acc) λ y hy=>h y (zMo _ hy);refine⟨cl,?_,λ x d hx=>?_,λ x hx=>?_⟩
   .rw[List.forIn_cons];simp only[beq_self_eq_true,if_true,cellOf,hc];exact e1
   .rcases e2 x d hx with q | ⟨q1,q2⟩
    .rw[List.lookup_cons] at q;cases hxn:x == n with
     | true=>
      rw[hxn] at q;have:x=n:=by simpa using hxn
      subst this;refine .inr ⟨zMc,?_⟩;rw[hc];exact q
     | false=>rw[hxn] at q;exact .inl q
    .exact .inr ⟨zMo _ q1,q2⟩
   .refine e3 x ?_;rcases hx with hx | hx
    .rcases List.mem_cons.mp hx with q | q
     .have:x=n:=congrArg Prod.fst q;subst this;exact .inr (by simp[List.lookup_cons])
     .exact .inl q
    .refine .inr ?_;rw[List.lookup_cons];cases x == n <;> simp[hx]
  .have hb:(k == NameKind.free)=false:=by simpa using hk
   obtain⟨cl,e1,e2,e3⟩:=gC l acc λ y hy=>h y (zMo _ hy);refine⟨cl,?_,λ x d hx=>?_,λ x hx=>?_⟩
   .rw[List.forIn_cons];simp only[hb,Bool.false_eq_true,if_false];exact e1
   .rcases e2 x d hx with q | ⟨q1,q2⟩
    .exact .inl q
    .exact .inr ⟨zMo _ q1,q2⟩
   .refine e3 x ?_;rcases hx with hx | hx
    .rcases List.mem_cons.mp hx with q | q
     .exact absurd (congrArg Prod.snd q).symm hk
     .exact .inl q
    .exact .inr hx
theorem aC {scope:Scope}{env:Env}(h:∀ y∈scope.names,y.2=.free->∃ c,env.cells.lookup y.1=some c):
  ∃ cl,closureFor scope env=pure cl/\(∀ x c,cl.lookup x=some c->(x,NameKind.free)∈scope.names/\env.cells.lookup x=some c)/\∀ x,(x,NameKind.free)∈scope.names->(cl.lookup x).isSome:=by
 obtain⟨cl,e1,e2,e3⟩:=gC (env:=env) scope.names [] h;refine⟨cl,?_,λ x c hx=>?_,λ x hx=>e3 x (.inl hx)⟩
 .simp only[closureFor];rw[e1];rfl
 .rcases e2 x c hx with q | q
  .simp at q
  .exact q
theorem cF {env:Env}:∀ {names:List (Str×NameKind)}{x:Str},names.lookup x=some .free->
  (names.map λ(n,k)=>if (k == NameKind.free&&env.scope.kind == .function&&env.kindOf n == some .cell) then (n,NameKind.cell) else (n,k)).lookup x=some .cell\/
  (names.map λ(n,k)=>if (k == NameKind.free&&env.scope.kind == .function&&env.kindOf n == some .cell) then (n,NameKind.cell) else (n,k)).lookup x=some .free
 | [],_,h=>by simp at h
 | (n,k)::r,x,h=>by
  have ih:=@cF env r x;show List.lookup x ((if (k == NameKind.free&&env.scope.kind == .function&&env.kindOf n == some .cell)=true then (n,NameKind.cell) else (n,k))::_)=_\/List.lookup x ((if (k == NameKind.free&&env.scope.kind == .function&&env.kindOf n == some .cell)=true then (n,NameKind.cell) else (n,k))::_)=_;cases hx:x == n with
  | true=>
   simp only[List.lookup_cons,hx] at h;cases h;by_cases hc:(NameKind.free == NameKind.free&&env.scope.kind == .function&&env.kindOf n == some .cell)=true
   .rw[if_pos hc];simp[List.lookup_cons,hx]
   .rw[if_neg hc];simp[List.lookup_cons,hx]
  | false=>
   simp only[List.lookup_cons,hx] at h;by_cases hc:(k == NameKind.free&&env.scope.kind == .function&&env.kindOf n == some .cell)=true
   .rw[if_pos hc];simp only[List.lookup_cons,hx];exact ih h
   .rw[if_neg hc];simp only[List.lookup_cons,hx];exact ih h
theorem da {env:Env}:∀ {names:List (Str×NameKind)}{x:Str},(∀ y∈names,y.2≠.cell)->
  ((names.map λ(n,k)=>if (k == NameKind.free&&env.scope.kind == .function&&env.kindOf n == some .cell) then (n,NameKind.cell) else (n,k)).lookup x=some .cell\/
  (names.map λ(n,k)=>if (k == NameKind.free&&env.scope.kind == .function&&env.kindOf n == some .cell) then (n,NameKind.cell) else (n,k)).lookup x=some .free)->(x,NameKind.free)∈names
 | [],_,_,h=>by simp at h
 | (n,k)::r,x,hn,h=>by
  have ih:=@da env r x λ y hy=>hn y (zMo _ hy);have h':List.lookup x ((if (k == NameKind.free&&env.scope.kind == .function&&env.kindOf n == some .cell)=true then (n,NameKind.cell) else (n,k))::_)=some .cell\/List.lookup x ((if (k == NameKind.free&&env.scope.kind == .function&&env.kindOf n == some .cell)=true then (n,NameKind.cell) else (n,k))::_)=some .free:=h;have hf:∀ k',((if (k == NameKind.free&&env.scope.kind == .function&&env.kindOf n == some .cell)=true then (n,NameKind.cell) else (n,k)):Str×NameKind)=(n,k')->(k'=.cell\/k'=.free)->k=.free:=by
   intro k' e hk';by_cases hc:(k == NameKind.free&&env.scope.kind == .function&&env.kindOf n == some .cell)=true
   .simp only[Bool.and_eq_true] at hc;simpa using hc.1.1
   .rw[if_neg hc] at e;have:k=k':=congrArg Prod.snd e;subst this;rcases hk' with q | q
    .exact absurd q (hn (n,k) zMc)
    .exact q
  cases hx:x == n with
  | true=>
   have hxn:x=n:=by simpa using hx
   subst hxn;by_cases hc:(k == NameKind.free&&env.scope.kind == .function&&env.kindOf x == some .cell)=true
   .simp only[Bool.and_eq_true] at hc;have:k=.free:=by simpa using hc.1.1
    subst this;exact zMc
   .rw[if_neg hc] at h';simp only[List.lookup_cons,beq_self_eq_true] at h';rcases h' with q | q
    .exact absurd (Option.some.inj q) (hn (x,k) zMc)
    .have:=Option.some.inj q;subst this;exact zMc
  | false=>
   refine zMo _ (ih ?_);by_cases hc:(k == NameKind.free&&env.scope.kind == .function&&env.kindOf n == some .cell)=true
   .rw[if_pos hc] at h';simp only[List.lookup_cons,hx] at h';exact h'
   .rw[if_neg hc] at h';simp only[List.lookup_cons,hx] at h';exact h'
end PySem
namespace L2
open PySem PySem.Spec PyProof.Rows
noncomputable def v_ (pick:List (Option Nat)) (σ:St):St:=pick.map λ o=>o.bind λ i=>(σ[i]?).join
noncomputable def yZ (X:Cx) (N':List Str) (scope:Scope) (cl:List (Str×Addr)) (C:Addr) (s:Shared) (H:Hp) (ex:List Addr):Cx:=
 { X with N:=N',s₀:=s,H₀:=H,env:=compEnvC scope cl C X.env,outer:=X.stack,stack:=X.stack,ex:=ex,fn:=λ _=>false,pn:=[],xe:=λ _ _=>False }
noncomputable def qH (N N':List Str) (pick:List (Option Nat)) (scope:Scope):Bool:=(N'.zip pick).all λ p=>match p.2 with
 | none=>true
 | some j=>decide (N[j]?=some p.1)&&decide (scope.names.lookup p.1=some .free)
structure qv (X:Cx) (N':List Str) (pick:List (Option Nat)) (scope:Scope):Prop where
 kind:scope.kind=.function
 cy:∀ y∈scope.names,y.2≠.cell
 names:∀ y∈scope.names,y.2=.local->scope.names.lookup y.1=some .local
 free:∀ y∈scope.names,y.2=.free->X.env.scope.names.lookup y.1=some .cell\/X.env.scope.names.lookup y.1=some .free
 len:pick.length=N'.length
 ok:qH X.N N' pick scope=true
theorem qH.get {N N':List Str}{pick:List (Option Nat)}{scope:Scope}(h:qH N N' pick scope=true) {i j:Nat}{x:Str}(h1:N'[i]?=some x) (h2:pick[i]?=some (some j)):N[j]?=some x/\scope.names.lookup x=some .free:=by
 unfold qH at h;have hm:(x,some j)∈N'.zip pick:=by
  refine List.mem_of_getElem? (i:=i) ?_;rw[List.getElem?_zip_eq_some];exact⟨h1,h2⟩
 have q:=List.all_eq_true.mp h _ hm;simp only[Bool.and_eq_true,decide_eq_true_eq] at q;exact q
theorem v_.get {pick:List (Option Nat)}{σ:St}{i:Nat}{v:V}(h:(v_ pick σ)[i]?=some (some v)):∃ j,pick[i]?=some (some j)/\σ[j]?=some (some v):=by
 unfold v_ at h;rw[List.getElem?_map] at h;cases e:pick[i]? with
 | none=>rw[e] at h;cases h
 | some o=>
  rw[e] at h;cases o with
  | none=>simp at h
  | some j=>
   refine⟨j,rfl,?_⟩;simp only[Option.map_some,Option.some.injEq,Option.bind_some] at h;cases q:σ[j]? with
   | none=>rw[q] at h;simp at h
   | some w=>rw[q] at h;simp at h;rw[h]
def PF (X:Cx) (ifs:List Expr) (t:TT):Prop:=∀ (pins:List (Addr×Obj)) (s:Shared) (σ:St) (H:Hp) (Q:Bool->Hp->Prop),Inv X pins σ H s->t σ H Q->
 wpAny (model X.prog X.w) X.A (forIn ifs true λ c r=>if r=true then do let ok <- isTrue c X.env (eval c X.env);pure (ForInStep.yield ok) else pure (ForInStep.yield r)) (TP X pins σ Q) X.xe s
theorem Ww {X:Cx}:PF X [] (λ _ H Q=>Q true H):=λ _ _ _ H _ I h=>wpAny_tests_nil ⟨H,I,h⟩
theorem Wv {X:Cx}{c:Expr}{t:TT}(h:PT X c t):PF X [c] t:=λ pins s σ H Q I q=>wpAny_tests_one (h pins s σ H Q I q)
def ji (pick:List (Option Nat)) (wi:TI) (g:TG) (tc:TT) (te:TE):TE:=fun σ H Q=>wi σ H λ J H1=>∀ D,H1 D=none->∃ W:Nat->Nat->St->Hp->Prop,(∃ m,W 0 m (v_ pick σ) (upd H1 D (.lst [])))/\
 ∀ i m σ H,W i m σ H->(J.stop i H/\Q (.ref D) H)\/(J.go i H/\∀ x H',J.qx i H x H'->g x σ H' fun σ2 H2=>tc σ2 H2 λ b H3=>
  if b=true then te σ2 H3 λ y H4=>∃ ys m',H4 D=some (.lst ys)/\ys.length<sizeLine/\m'<m/\W (i+1) m' σ2 (upd H4 D (.lst (ys++[y]))) else ∃ m',m'<m/\W (i+1) m' σ2 H3)
section
variable {X:Cx}{pins:List (Addr×Obj)}{σ:St}{H:Hp}{s:Shared}{N':List Str}{pick:List (Option Nat)}{scope:Scope}{cl:List (Str×Addr)}{C:Addr}{fp:List Addr}
theorem TV (S:qv X N' pick scope) (I:Inv X pins σ H s) (hfp:∀ b∈fp,vT X pins H b) (hlt:∀ b∈fp,b<s.heap.objs.size)
  (c1:∀ x c,cl.lookup x=some c->(x,NameKind.free)∈scope.names/\X.env.cells.lookup x=some c) (c2:∀ x,(x,NameKind.free)∈scope.names->(cl.lookup x).isSome)
  {h1:Heap}{m1:Str->Option Value}{t':Nat}(hC:s.heap.objs.size<C) (old:∀ b o,s.heap.get? b=some o->h1.get? b=some o) (hns:h1.Ns C m1)
  (hD:h1.get? s.heap.objs.size=some { cls:=.type "list",data:=.seq #[] 0 }):
  Inv (yZ X N' scope cl C s H fp) [] (v_ pick σ) (upd H s.heap.objs.size (.lst [])) { s with heap:=h1,toks:=t' }:=by
 have hDn:H s.heap.objs.size=none:=I.zE.fresh (Nat.le_refl _);have hCn:H C=none:=I.zE.fresh (Nat.le_of_lt hC);have clt:∀ x c,cl.lookup x=some c->c<s.heap.objs.size:=λ x c e=>by
  obtain⟨v,q⟩:=I.cell x c (c1 x c e).2;exact q.lt
 refine⟨⟨I.ok.mod,S.kind,I.ok.glob,I.ok.blt,Nat.le_of_lt hC,λ x y c e1 e2=>I.ok.inj x y c (c1 x c e1).2 (c1 y c e2).2,λ x hx=>?_,λ x c hf _=>absurd (show false=true from hf) Bool.false_ne_true,I.ok.hd,I.ok.frames,.inl rfl,
  λ b hb=>⟨Nat.ne_of_lt (Nat.lt_trans (hlt b hb) hC),λ x c e=>(hfp b hb).2.2.2.2.1 x c (c1 x c e).2⟩,I.bs,Nat.le_trans I.ok.qc I.sz,λ b o e hb=>?_,λ b hb z=>?_,I.stack,I.eF⟩,
  rfl,I.bare,Un.laid old (Nat.le_refl _) hDn,⟨m1,hns,λ i x v e1 e2 e3=>?_⟩,λ x c e=>?_,?_,λ x c e=>?_,λ p hp=>absurd (show p∈([]:List (Addr×Obj)) from hp) (by simp),I.zE.laid old (Nat.le_refl _) ?_,?_⟩
 .exact Option.isSome_iff_exists.mp (c2 x (da S.cy hx))
 .rcases (hfp b hb).2.2.2.1 with z | z
  .exact I.ok.oQ b o e z
  .exact absurd (Nat.lt_of_lt_of_le (Heap.lt_size (I.ok.bs b o e).1) z) (Nat.lt_irrefl _)
 .rcases List.mem_cons.mp (I.jm b z) with q | q
  .exact (hfp b hb).2.1 q
  .exact (hfp b hb).2.2.1 q
 .obtain⟨j,p1,p2⟩:=v_.get e2;obtain⟨q1,q2⟩:=qH.get S.ok e1 p1;obtain⟨m0,n0,l0⟩:=I.loc;have hm:(x,NameKind.free)∈scope.names:=PySem.mem_of_lookup q2;have hk:X.env.scope.names.lookup x=some .cell\/X.env.scope.names.lookup x=some .free:=S.free _ hm rfl;obtain⟨u,r,l⟩:=l0 j x v q1 p2 (.inr hk);refine⟨u,r,.inr ⟨cF q2,?_⟩⟩;rcases l with ⟨k,_⟩ | ⟨_,c,e,z⟩
  .have k':X.env.scope.names.lookup x=some .local:=k;rcases hk with hk | hk <;> (rw[k'] at hk;cases hk)
  .obtain⟨c',e'⟩:=Option.isSome_iff_exists.mp (c2 x hm);have e'':=(c1 x c' e').2;rw[e] at e'';cases e'';obtain⟨o,z1,z2⟩:=z;exact⟨c,e',o,old _ _ z1,z2⟩
 .obtain⟨v,o,z1,z2⟩:=I.cell x c (c1 x c e).2;exact⟨v,o,old _ _ z1,z2⟩
 .show upd H s.heap.objs.size (.lst []) C=none;rw[yM (Nat.ne_of_gt hC)];exact hCn
 .show upd H s.heap.objs.size (.lst []) c=none;rw[yM (Nat.ne_of_lt (clt x c e))];exact I.uW x c (c1 x c e).2
 .exact⟨Nat.zero_le _,[],0,.nil,hD⟩
 .show (v_ pick σ).length=N'.length;unfold v_;rw[List.length_map];exact S.len
theorem TR {σ':St}{H':Hp}{s':Shared}{oC:Obj}(I:Inv X pins σ H s) (hfp:∀ b∈fp,vT X pins H b) (hC:s.heap.objs.size<C)
  (I':Inv (yZ X N' scope cl C s H fp) [] σ' H' s') (hoC:s'.heap.get? C=some oC):Inv X (pins++[(C,oC)]) σ H' s':=by
 have J:Inv X pins σ H' s':=I.Qb (ch:=fp) I'.os I'.base I'.zE I'.bare λ b hb=>⟨(hfp b hb).2.2.2.1,(hfp b hb).2.1,(hfp b hb).2.2.2.2.1,(hfp b hb).2.2.2.2.2⟩;refine J.ig λ p hp=>(List.mem_append.mp hp).elim (λ z=>J.pin p (List.mem_append_right _ z)) λ z=>?_;obtain rfl:p=(C,oC):=List.mem_singleton.mp z;refine⟨hoC,I'.free,Nat.ne_of_gt (Nat.lt_trans I.lt hC),I.cv (Nat.le_of_lt hC),λ v hv=>?_⟩;obtain⟨m,⟨o,es,ep,ho,hd,_⟩,_⟩:=I'.loc;have ho':s'.heap.get? C=some o:=ho;rw[hoC] at ho';cases ho';rw[hd] at hv;cases hv
theorem bf {σ':St}{H':Hp}{s':Shared}{oC:Obj}{h':Heap}(I:Inv X pins σ H s) (hC:s.heap.objs.size<C) (J:Inv X (pins++[(C,oC)]) σ' H' s') (hs:Heap.SameBut C s'.heap h'):Inv X pins σ' H' { s' with heap:=h' }:=by
 have J':=J.pZ;have hp:=J.pin (C,oC) (List.mem_append_right _ (List.mem_append_right _ (List.mem_singleton.mpr rfl)));have lt:∀ c,c<s.heap.objs.size->c≠C:=λ c h=>Nat.ne_of_lt (Nat.lt_trans h hC);refine J'.turned (t':=s'.toks) (it:=C) (λ b o hb e=>hs.extBut b o hb e) hp.2.1 hp.2.2.1 (.inr (Nat.le_trans I.sz (Nat.le_of_lt hC))) (λ x c e z=>?_) (λ p hq z=>?_)
 .obtain⟨v,q⟩:=I.cell x c e;exact lt c q.lt z
 .exact lt p.1 (Heap.lt_size (I.pin p hq).1) z
end
section
variable {X:Cx}{N':List Str}{pick:List (Option Nat)}{scope:Scope}{elt iter tg:Expr}{ifs:List Expr}{pos:Pos}{wi:TI}{g:TG}{tc:TT}{te:TE}
theorem Tq {pins:List (Addr×Obj)}{σ:St}{H:Hp}{s:Shared}{it C:Addr}{fp:List Addr}{tn:Nat->Heap->Prop}{J:It}{cl:List (Str×Addr)}{W:Nat->Nat->St->Hp->Prop}{Q:V->Hp->Prop}{R:Result->Shared->Prop}{D:Addr}
  (hc:X.calm=true) (hg:PG (yZ X N' scope cl C s H fp) tg g) (hf:PF (yZ X N' scope cl C s H fp) ifs tc) (he:PE (yZ X N' scope cl C s H fp) elt te)
  (T:Turn X.prog X.w X.K tg J fp it tn) (hfp:∀ b∈fp,vT X pins H b) (hstat:∀ b∈fp,b≠C/\b∉vG X.stack/\∀ x c,cl.lookup x=some c->c≠b)
  (turn:∀ i m σ H,W i m σ H->(J.stop i H/\Q (.ref D) H)\/(J.go i H/\∀ x H',J.qx i H x H'->g x σ H' fun σ2 H2=>tc σ2 H2 λ b H3=>
   if b=true then te σ2 H3 λ y H4=>∃ ys m',H4 D=some (.lst ys)/\ys.length<sizeLine/\m'<m/\W (i+1) m' σ2 (upd H4 D (.lst (ys++[y]))) else ∃ m',m'<m/\W (i+1) m' σ2 H3))
  (fin:∀ σ' H' s',Inv (yZ X N' scope cl C s H fp) [] σ' H' s'->Q (.ref D) H'->R (.ok .next) s')
  {m0:Nat}{σ0:St}{H0:Hp}{s0:Shared}(I0:Inv (yZ X N' scope cl C s H fp) [] σ0 H0 s0) (t0:tn 0 s0.heap) (f0:∀ b∈fp,H0 b=none) (w0:W 0 m0 σ0 H0):
  codeAny (model X.prog X.w) X.A (.compLoop (.ListComp elt [⟨tg,iter,ifs,0⟩] scope pos) 0 (.ref it) (.ref D) (compEnvC scope cl C X.env)) R s0:=by
 have stat:∀ {H':Hp},(∀ b∈fp,H' b=none)->∀ b∈fp,vT (yZ X N' scope cl C s H fp) [] H' b:=λ hn b hb=>⟨hn b hb,(hstat b hb).1,(hstat b hb).2.1,.inl hb,(hstat b hb).2.2,λ p hp=>absurd (show p∈([]:List (Addr×Obj)) from hp) (by simp)⟩;refine codeAny_loop rfl (λ n s'=>∃ i σ' H',Inv (yZ X N' scope cl C s H fp) [] σ' H' s'/\tn i s'.heap/\(∀ b∈fp,H' b=none)/\W i n σ' H') (λ n s3 hI=>?_) m0 ⟨0,σ0,H0,I0,t0,f0,w0⟩;obtain⟨i,σ3,H3,I3,st3,fr3,w3⟩:=hI;show wpAny _ X.A ((compTurn (.ListComp elt [⟨tg,iter,ifs,0⟩] scope pos) 0 (.ref it) (.ref D) (compEnvC scope cl C X.env)).onRaise (λ x=>do noteFrame x (compEnvC scope cl C X.env);theTreesLotGoes x)) _ _ s3;refine wpAny_noted ?_;rw[compTurn_list];refine zWb (wpAny_standAt (zWb ?_));rcases turn i n σ3 H3 w3 with ⟨stop,qn⟩ | ⟨go,step⟩
 .refine zK (T.done (yZ X N' scope cl C s H fp) rfl rfl rfl hc i [] s3 σ3 H3 _ I3 (stat fr3) st3 stop) λ r s4 ⟨hr,I4⟩=>?_;subst hr;exact wpAny_pure (fin σ3 H3 s4 I4 qn)
 .refine zK (T.item (yZ X N' scope cl C s H fp) rfl rfl rfl hc i [] s3 σ3 H3 _ I3 (stat fr3) st3 go) λ r s4 ⟨u,hr,h4⟩=>?_;subst hr;refine zWb (zK h4 λ _ s5 ⟨x,H5,I5,r5,y5,st5,fr5⟩=>?_);have I5':=I5.pinned (stat fr5) (T.obj _ _ st5);refine zWb (wpAny_mono (hg _ s5 σ3 H5 x u _ I5' r5 (step x H5 y5)) (λ _ s6 ⟨σ6,H6,I6,q6⟩=>?_) λ _ _ z=>False.elim z);refine zWb (wpAny_mono (hf _ s6 σ6 H6 _ I6 q6) (λ ok s7 ⟨H7,I7,q7⟩=>?_) λ _ _ z=>False.elim z);have back:∀ {H8:Hp}{s8:Shared},Inv (yZ X N' scope cl C s H fp) ([]++o3 fp s5.heap) σ6 H8 s8->(∃ m',m'<n/\W (i+1) m' σ6 H8)->∃ m,m<n/\∃ i σ' H',Inv (yZ X N' scope cl C s H fp) [] σ' H' s8/\tn i s8.heap/\(∀ b∈fp,H' b=none)/\W i m σ' H':=λ{H8 s8} I8 ⟨m',hm,w8⟩=>by
   refine⟨m',hm,i+1,σ6,H8,I8.pZ,T.keep _ _ _ st5 λ b hb o e=>(I8.pin (b,o) (List.mem_append_right _ (List.mem_append_right _ (lL hb e)))).1,λ b hb=>?_,w8⟩;obtain⟨o,e,d⟩:=T.obj _ _ st5 b hb;exact (I8.pin (b,o) (List.mem_append_right _ (List.mem_append_right _ (lL hb e)))).2.1
  cases ok with
  | false=>
   rw[if_neg Bool.false_ne_true] at q7;exact wpAny_pure ⟨rfl,back I7 q7⟩
  | true=>
   rw[if_pos rfl] at q7;refine zWb (zWb (wpAny_mono (he _ s7 σ6 H7 _ I7 q7) (λ uy s8 ⟨y,H8,I8,r8,ys,m',e8,z8,hm,w8⟩=>?_) λ _ _ z=>False.elim z));refine zWb (wpAny_mono (cA (X:=yZ X N' scope cl C s H fp) _ s8 σ6 H8 (.ref D) [y] (.ref D) [uy] (λ _ H9=>W (i+1) m' σ6 H9) I8 rfl (.cons r8 .nil) ⟨D,ys,y,rfl,rfl,e8,z8,w8⟩) (λ _ s9 ⟨_,H9,I9,_,q9⟩=>?_) λ _ _ z=>False.elim z);exact wpAny_pure (wpAny_pure ⟨rfl,back I9 ⟨m',hm,q9⟩⟩)
theorem cO {pins:List (Addr×Obj)}{σ:St}{H:Hp}{s:Shared}{it:Addr}{fp:List Addr}{tn:Nat->Heap->Prop}{J:It}{cl:List (Str×Addr)}{Q:V->Hp->Prop}{E:Value->Shared->Prop}{RR:Value->Addr->Result->Shared->Prop}
  (S:qv X N' pick scope) (hc:X.calm=true) (hg:∀ cl C s H fp,PG (yZ X N' scope cl C s H fp) tg g) (hf:∀ cl C s H fp,PF (yZ X N' scope cl C s H fp) ifs tc) (he:∀ cl C s H fp,PE (yZ X N' scope cl C s H fp) elt te)
  (c1:∀ x c,cl.lookup x=some c->(x,NameKind.free)∈scope.names/\X.env.cells.lookup x=some c) (c2:∀ x,(x,NameKind.free)∈scope.names->(cl.lookup x).isSome)
  (I:Inv X pins σ H s) (T:Turn X.prog X.w X.K tg J fp it tn) (t0:tn 0 s.heap) (hfp:∀ b∈fp,vT X pins H b)
  (rd:∀ D,H D=none->∃ W:Nat->Nat->St->Hp->Prop,(∃ m,W 0 m (v_ pick σ) (upd H D (.lst [])))/\
   ∀ i m σ H,W i m σ H->(J.stop i H/\Q (.ref D) H)\/(J.go i H/\∀ x H',J.qx i H x H'->g x σ H' fun σ2 H2=>tc σ2 H2 λ b H3=>
    if b=true then te σ2 H3 λ y H4=>∃ ys m',H4 D=some (.lst ys)/\ys.length<sizeLine/\m'<m/\W (i+1) m' σ2 (upd H4 D (.lst (ys++[y]))) else ∃ m',m'<m/\W (i+1) m' σ2 H3))
  (fin:∀ C D oC H' s',s.heap.objs.size<C->Inv X (pins++[(C,oC)]) σ H' s'->s'.heap.get? C=some oC->(∃ m,s'.heap.Ns C m)->Q (.ref D) H'->RR (.ref D) C (.ok .next) s'):
  wpAny (model X.prog X.w) X.A (newList []) (λ acc s₃=>wpAny (model X.prog X.w) X.A (newFunctionEnv scope X.env.globals cl [] X.env.qual none .none (some X.env)) (λ cenv s₄=>
   codeAny (model X.prog X.w) X.A (.compStart (.ListComp elt [⟨tg,iter,ifs,0⟩] scope pos) 0 (.ref it) acc { cenv with scope:=relabel scope X.env }) (RR acc cenv.locals) s₄) E s₃) E s:=by
 refine wpAny_newObj_type (wpAny_newFunctionEnv S.cy (by intro y hy;simp at hy) (λ h₁ hns₁ hsb₁=>?_) S.kind);dsimp only at hns₁ hsb₁ ⊢;generalize hH2:s.heap.push { cls:=.type "list",dict:=none,data:=.seq ([]:List Value).toArray }=H2 at hns₁ hsb₁ ⊢;have hC:H2.objs.size=s.heap.objs.size+1:=by rw[<- hH2,Heap.size_push]
 have hlt:s.heap.objs.size<H2.objs.size:=by rw[hC];exact Nat.lt_succ_self _
 have old:∀ b o,s.heap.get? b=some o->h₁.get? b=some o:=λ b o e=>hsb₁.extBut b o (Nat.ne_of_lt (Nat.lt_trans (Heap.lt_size e) hlt)) (zHp _ (hH2▸zHp _ e));have hacc:h₁.get? s.heap.objs.size=some { cls:=.type "list",data:=.seq #[] 0 }:=hsb₁.extBut _ _ (Nat.ne_of_lt hlt) (zHp _ (hH2▸Heap.get?_push_size _ rfl));have hflt:∀ b∈fp,b<s.heap.objs.size:=λ b hb=>by
  obtain⟨o,e,_⟩:=T.obj _ _ t0 b hb;exact Heap.lt_size e
 have hDn:H s.heap.objs.size=none:=I.zE.fresh (Nat.le_refl _);obtain⟨W,⟨m0,w0⟩,turn⟩:=rd s.heap.objs.size hDn;have I0:=TV (t':=s.toks+([]:List (Str×Value)).length) S I hfp hflt c1 c2 hlt old hns₁ hacc;have t1:tn 0 h₁:=T.keep _ _ _ t0 λ b _ o e=>old b o e;have hst:∀ b∈fp,b≠H2.objs.size/\b∉vG X.stack/\∀ x c,cl.lookup x=some c->c≠b:=λ b hb=>I0.ok.gr b hb |> λ q=>⟨q.1,I0.ok.nD b hb,q.2⟩
 have loop:codeAny (model X.prog X.w) X.A (.compLoop (.ListComp elt [⟨tg,iter,ifs,0⟩] scope pos) 0 (.ref it) (.ref s.heap.objs.size) (compEnvC scope cl H2.objs.size X.env)) (RR (.ref s.heap.objs.size) H2.objs.size) { s with heap:=h₁,toks:=s.toks+([]:List (Str×Value)).length }:=by
  refine Tq (σ:=σ) hc (hg _ _ _ _ _) (hf _ _ _ _ _) (he _ _ _ _ _) T hfp hst turn (fun σ' H' s' I' q=>?_) I0 t1 (λ b hb=>?_) w0
  .obtain⟨m,hn,_⟩:=I'.loc;have hn':s'.heap.Ns H2.objs.size m:=hn;obtain⟨oC,es,ep,ho,hr⟩:=id hn';exact fin _ _ oC H' s' hlt (TR I hfp hlt I' ho) ho ⟨m,hn'⟩ q
  .show upd H s.heap.objs.size (.lst []) b=none;rw[yM (Nat.ne_of_lt (hflt b hb))];exact (hfp b hb).1
 exact codeAny_compStart_list loop (T.self _ 0 _ _ _ t1 loop)
theorem W9 (S:qv X N' pick scope) (hc:X.calm=true) (hi:PI X tg iter wi) (hg:∀ cl C s H fp,PG (yZ X N' scope cl C s H fp) tg g) (hf:∀ cl C s H fp,PF (yZ X N' scope cl C s H fp) ifs tc) (he:∀ cl C s H fp,PE (yZ X N' scope cl C s H fp) elt te)
  (hs:∀ x,foldedSetIterable iter X.env x=pure x:=by intro _;rfl):PE X (.ListComp elt [⟨tg,iter,ifs,0⟩] scope pos) (ji pick wi g tc te):=by
 intro pins s σ H Q I h;obtain⟨cl,hclos,c1,c2⟩:=aC (scope:=scope) (env:=X.env) λ y hy hk=>I.ok.has y.1 (S.free y hy hk);rw[eval_ListComp];refine wpAny_comprehension_free (use:=none) rfl hs hclos S.kind S.names (zK (hi pins s σ H _ I h) λ v s1 h1=>zK h1 λ itv s2 h2=>?_);obtain⟨it,fp,tn,J,H2,e,I2,T,st2,f2,rd⟩:=h2;subst e;refine cO (RR:=λ acc C=>compPost (model X.prog X.w) X.A X.xe none (EP X pins σ Q) acc C) S hc hg hf he c1 c2 I2 T st2 f2 rd λ C D oC H' s' hC J' ho hn q=>?_;obtain⟨m,hn⟩:=hn;exact⟨m,hn,λ h' hs'=>⟨.ref D,H',bf I2 hC J' hs',rfl,q⟩⟩
theorem XY {i:Nat}{y:Str}{py spos:Pos}(S:qv X N' pick scope) (hc:X.calm=true) (hi:PI X tg iter wi) (hg:∀ cl C s H fp,PG (yZ X N' scope cl C s H fp) tg g) (hf:∀ cl C s H fp,PF (yZ X N' scope cl C s H fp) ifs tc) (he:∀ cl C s H fp,PE (yZ X N' scope cl C s H fp) elt te)
  (hN:X.N.Nodup) (hy:X.N[i]?=some y) (hx:Loc X.env.scope y)
  (hsw:swapsWith (.ListComp elt [⟨tg,iter,ifs,0⟩] scope pos) (some (.Name y py)) spos.line X.env=pure true:=by rfl)
  (hfn:X.fn y=true\/X.env.scope.names.lookup y=some .local:=by first | exact .inl rfl | exact .inr rfl | assumption)
  (hs:∀ x,foldedSetIterable iter X.env x=pure x:=by intro _;rfl):PS X (.Assign [.Name y py] (.ListComp elt [⟨tg,iter,ifs,0⟩] scope pos) spos) (oa (ji pick wi g tc te) (px i)):=by
 intro pins s σ H Q I h;obtain⟨cl,hclos,c1,c2⟩:=aC (scope:=scope) (env:=X.env) λ y hy hk=>I.ok.has y.1 (S.free y hy hk);rw[exec_Assign_Name_used _ _ _ _ hsw];refine zWb (wpAny_standAt (zWb ?_));show wpAny _ X.A (do let _ <- comprehension (.ListComp elt [⟨tg,iter,ifs,0⟩] scope pos) scope X.env _ (newList []) false (eval iter X.env) (some (assign (.Name y py) X.env))) _ _ s;refine zWb (wpAny_mono (wpAny_comprehension_free (use:=some (assign (.Name y py) X.env)) (Q:=λ _ s'=>SP X pins Q .next s') rfl hs hclos S.kind S.names
  (zK (hi pins s σ H _ I h) λ v s1 h1=>zK h1 λ itv s2 h2=>?_)) (λ _ s' hq=>wpAny_pure (wpAny_pure hq)) λ _ _ e=>e)
 obtain⟨it,fp,tn,J,H2,e,I2,T,st2,f2,rd⟩:=h2;subst e;refine cO (Q:=λ x H1=>px i x σ H1 Q.nx) (RR:=λ acc C=>compPost (model X.prog X.w) X.A X.xe (some (assign (.Name y py) X.env)) (λ _ s'=>SP X pins Q .next s') acc C) S hc hg hf he c1 c2 I2 T st2 f2 rd λ C D oC H' s' hC J' ho hn q=>?_;show wpAny _ X.A (assign (.Name y py) X.env (.ref D)) _ _ _;refine wpAny_assign_Name (jl J' hN hy hx (v:=.ref D) rfl (λ s3 J3=>?_) hfn);have hp:=(J3.pin (C,oC) (List.mem_append_right _ (List.mem_append_right _ (List.mem_singleton.mpr rfl)))).1;obtain⟨m,o,es,ep,ho',hr⟩:=hn;have:o=oC:=Option.some.inj (ho'.symm.trans ho);subst this;exact⟨m,⟨o,es,ep,hp,hr⟩,λ h' hs'=>⟨_,H',bf I2 hC J3 hs',q⟩⟩
end
end L2
namespace L3
open PySem PySem.Spec L2
open PyProof.Rows hiding St
inductive D where
 | zk | bl (b:Bool) | int (i:Int) | str (x:Str) | tup (ds:List D) | yO (ds:List D) | ref (a:Addr)
def pE (K:PySem.W.Frag) (H:Hp) (a:Addr) (xs:List V):Prop:=
 (∃ o,H a=some (.wq o (.lst xs)))\/
  ∃ (o:Obj) (its:Array Value) (n:Nat),K.lookup a=some o/\o.cls=.type "list"/\o.dict=none/\o.data=.seq its n/\its.size<=sizeLine/\Vals xs its.toList
theorem pE.sq {K:PySem.W.Frag}{H:Hp}{a:Addr}{xs:List V}(h:pE K H a xs):zQ K H a xs:=by
 rcases h with h | h
 .exact .inl (.inr h)
 .exact .inr h
mutual
noncomputable def zg (K:PySem.W.Frag) (H:Hp):D->V->Prop
 | .zk,v=>v=.zk
 | .bl b,v=>v=.bl b
 | .int i,v=>v=.int i
 | .str x,v=>v=.str x
 | .tup ds,v=>∃ a xs,v=.ref a/\yb K H a xs/\zq K H ds xs
 | .yO ds,v=>∃ a xs,v=.ref a/\pE K H a xs/\zq K H ds xs
 | .ref a,v=>v=.ref a
noncomputable def zq (K:PySem.W.Frag) (H:Hp):List D->List V->Prop
 | [],xs=>xs=[]
 | d::ds,xs=>∃ x r,xs=x::r/\zg K H d x/\zq K H ds r
end
structure Ext (H H':Hp):Prop where
 tup:∀ b xs,H b=some (.tup xs)->H' b=some (.tup xs)
 wq:∀ b o u,H b=some (.wq o u)->H' b=some (.wq o u)
theorem Ext.refl (H:Hp):Ext H H:=⟨λ _ _ h=>h,λ _ _ _ h=>h⟩
theorem Ext.trans {H H1 H2:Hp}(a:Ext H H1) (b:Ext H1 H2):Ext H H2:=⟨λ c xs h=>b.tup c xs (a.tup c xs h),λ c o u h=>b.wq c o u (a.wq c o u h)⟩
theorem Ext.new {H:Hp}{p:Addr}(h:H p=none) (o:HO):Ext H (upd H p o):=
 ⟨λ b xs q=>by rw[yM (sO q h)];exact q,λ b ob u q=>by rw[yM (sO q h)];exact q⟩
theorem Ext.lst {H:Hp}{p:Addr}{xs:List V}(h:H p=some (.lst xs)) (o:HO):Ext H (upd H p o):=
 ⟨λ b ys q=>by rw[yM (oU q h (by intro z;cases z))];exact q,λ b ob u q=>by rw[yM (oU q h (by intro z;cases z))];exact q⟩
theorem Ext.mS {K:PySem.W.Frag}{H H':Hp}{a:Addr}{xs:List V}(e:Ext H H') (h:yb K H a xs):yb K H' a xs:=by
 rcases h with (h | ⟨o,h⟩) | h
 .exact .inl (.inl (e.tup _ _ h))
 .exact .inl (.inr ⟨o,e.wq _ _ _ h⟩)
 .exact .inr h
theorem Ext.mT {K:PySem.W.Frag}{H H':Hp}{a:Addr}{xs:List V}(e:Ext H H') (h:pE K H a xs):pE K H' a xs:=by
 rcases h with ⟨o,h⟩ | h
 .exact .inl ⟨o,e.wq _ _ _ h⟩
 .exact .inr h
section
variable {K:PySem.W.Frag}{H H':Hp}
mutual
theorem zg.ext (e:Ext H H'):∀ (d:D) {v:V},zg K H d v->zg K H' d v
 | .zk,v,h=>by simpa only [zg] using h
 | .bl b,v,h=>by simpa only [zg] using h
 | .int i,v,h=>by simpa only [zg] using h
 | .str x,v,h=>by simpa only [zg] using h
 | .ref a,v,h=>by simpa only [zg] using h
 | .tup ds,v,h=>by
  simp only[zg] at h ⊢;obtain⟨a,xs,h1,h2,h3⟩:=h;exact⟨a,xs,h1,e.mS h2,zq.ext e ds h3⟩
 | .yO ds,v,h=>by
  simp only[zg] at h ⊢;obtain⟨a,xs,h1,h2,h3⟩:=h;exact⟨a,xs,h1,e.mT h2,zq.ext e ds h3⟩
theorem zq.ext (e:Ext H H'):∀ (ds:List D) {xs:List V},zq K H ds xs->zq K H' ds xs
 | [],xs,h=>by simpa only [zq] using h
 | d::ds,xs,h=>by
  simp only[zq] at h ⊢;obtain⟨x,r,h1,h2,h3⟩:=h;exact⟨x,r,h1,zg.ext e d h2,zq.ext e ds h3⟩
end
theorem zq.length:∀ {ds:List D}{xs:List V},zq K H ds xs->ds.length=xs.length
 | [],xs,h=>by simp only[zq] at h;subst h;rfl
 | d::ds,xs,h=>by
  simp only[zq] at h;obtain⟨x,r,h1,_,h3⟩:=h;subst h1;simp[zq.length h3]
theorem zq.get:∀ {ds:List D}{xs:List V}{i:Nat}{d:D},zq K H ds xs->ds[i]?=some d->∃ x,xs[i]?=some x/\zg K H d x
 | [],_,i,d,_,e=>by simp at e
 | c::ds,xs,i,d,h,e=>by
  simp only[zq] at h;obtain⟨x,r,h1,h2,h3⟩:=h;subst h1;cases i with
  | zero=>simp at e;subst e;exact⟨x,rfl,h2⟩
  | succ i=>
   obtain⟨y,e1,e2⟩:=zq.get (i:=i) h3 (by simpa using e);exact⟨y,by simpa using e1,e2⟩
theorem zq.append:∀ {ds es:List D}{xs ys:List V},zq K H ds xs->zq K H es ys->zq K H (ds++es) (xs++ys)
 | [],es,xs,ys,h,h'=>by simp only[zq] at h;subst h;simpa using h'
 | d::ds,es,xs,ys,h,h'=>by
  simp only[zq] at h;obtain⟨x,r,h1,h2,h3⟩:=h;subst h1;show zq K H (d::(ds++es)) (x::(r++ys));simp only[zq];exact⟨x,r++ys,rfl,h2,zq.append h3 h'⟩
theorem zq.nil:zq K H [] []:=by simp only[zq]
theorem zq.cons {d:D}{ds:List D}{x:V}{xs:List V}(h:zg K H d x) (h':zq K H ds xs):zq K H (d::ds) (x::xs):=by
 simp only[zq];exact⟨x,xs,rfl,h,h'⟩
theorem zq.snoc {d:D}{ds:List D}{x:V}{xs:List V}(h':zq K H ds xs) (h:zg K H d x):zq K H (ds++[d]) (xs++[x]):=h'.append (.cons h .nil)
theorem zq.ints:∀ {ns:List Int}{xs:List V},zq K H (ns.map D.int) xs->xs=ns.map V.int
 | [],xs,h=>by simpa only [List.map_nil,zq] using h
 | n::ns,xs,h=>by
  rw[List.map_cons] at h;simp only[zq,zg] at h;obtain⟨x,r,h1,h2,h3⟩:=h;subst h1 h2;rw[List.map_cons,zq.ints h3]
theorem zq.i8:∀ (ns:List Int),zq K H (ns.map D.int) (ns.map V.int)
 | []=>.nil
 | n::ns=>.cons (by simp only[zg]) (zq.i8 ns)
theorem zq.bools:∀ {ns:List Bool}{xs:List V},zq K H (ns.map D.bl) xs->xs=ns.map V.bl
 | [],xs,h=>by simpa only [List.map_nil,zq] using h
 | n::ns,xs,h=>by
  rw[List.map_cons] at h;simp only[zq,zg] at h;obtain⟨x,r,h1,h2,h3⟩:=h;subst h1 h2;rw[List.map_cons,zq.bools h3]
end
inductive O where
 | lst (ds:List D)
 | yg (kvs:List (Key×D))
abbrev SS:=Addr->Option O
def xj (K:PySem.W.Frag) (H:Hp):List (Key×D)->List (Key×V)->Prop:=Paired λ p q=>p.1=q.1/\zg K H p.2 q.2
noncomputable def qh (K:PySem.W.Frag) (H:Hp) (a:Addr):O->Prop
 | .lst ds=>∃ xs,H a=some (.lst xs)/\zq K H ds xs
 | .yg kvs=>∃ vs,H a=some (.dK vs)/\xj K H kvs vs
def zN (K:PySem.W.Frag) (H:Hp) (S:SS):Prop:=∀ a o,S a=some o->qh K H a o
noncomputable def ups (S:SS) (a:Addr) (o:O):SS:=λ b=>if b=a then some o else S b
theorem sr {S:SS}{a:Addr}{o:O}:ups S a o a=some o:=by unfold ups;rw[if_pos rfl]
theorem uI {S:SS}{a b:Addr}{o:O}(h:b≠a):ups S a o b=S b:=by unfold ups;rw[if_neg h]
def Sx (S S':SS):Prop:=∀ b o,S b=some o->S' b=some o
theorem Sx.refl (S:SS):Sx S S:=λ _ _ h=>h
theorem Sx.trans {S S1 S2:SS}(a:Sx S S1) (b:Sx S1 S2):Sx S S2:=λ c o h=>b c o (a c o h)
theorem Sx.new {S:SS}{p:Addr}(h:S p=none) (o:O):Sx S (ups S p o):=λ b u q=>by
 rw[uI (by intro z;subst z;rw[h] at q;cases q)];exact q
theorem Sx.none {S S':SS}(e:Sx S S') {p:Addr}(h:S' p=Option.none):S p=Option.none:=by
 cases q:S p with
 | none=>rfl
 | some o=>rw[e p o q] at h;cases h
section
variable {K:PySem.W.Frag}{H H':Hp}{S:SS}
theorem qh.has {a:Addr}{o:O}(h:qh K H a o):H a≠none:=by
 cases o with
 | lst ds=>obtain⟨xs,h,_⟩:=h;rw[h];simp
 | yg kvs=>obtain⟨xs,h,_⟩:=h;rw[h];simp
theorem zN.none (r:zN K H S) {p:Addr}(h:H p=Option.none):S p=Option.none:=by
 cases q:S p with
 | none=>rfl
 | some o=>exact absurd h (r p o q).has
theorem xj.ext (e:Ext H H') {kvs:List (Key×D)}{vs:List (Key×V)}(h:xj K H kvs vs):xj K H' kvs vs:=
 Paired.lN h λ p q z=>⟨z.1,zg.ext e p.2 z.2⟩
theorem qh.keep {a:Addr}{o:O}(e:Ext H H') (k:∀ u,H a=some u->H' a=some u) (h:qh K H a o):qh K H' a o:=by
 cases o with
 | lst ds=>obtain⟨xs,h1,h2⟩:=h;exact⟨xs,k _ h1,zq.ext e ds h2⟩
 | yg kvs=>obtain⟨xs,h1,h2⟩:=h;exact⟨xs,k _ h1,h2.ext e⟩
theorem zN.keep (e:Ext H H') (k:∀ a u o,S a=some o->H a=some u->H' a=some u) (r:zN K H S):zN K H' S:=λ a o h=>(r a o h).keep e λ u q=>k a u o h q
theorem zN.new {p:Addr}{u:HO}(hp:H p=Option.none) (r:zN K H S):zN K (upd H p u) S:=
 r.keep (Ext.new hp u) λ a v o _ q=>by rw[yM (sO q hp)];exact q
theorem zN.ups {p:Addr}{u:HO}{o:O}(e:Ext H (upd H p u)) (hn:qh K (upd H p u) p o) (r:zN K H S):zN K (upd H p u) (ups S p o):=λ a o' h=>by
 by_cases ha:a=p
 .subst ha;rw[sr] at h;cases h;exact hn
 .rw[uI ha] at h;exact (r a o' h).keep e λ v q=>by rw[yM ha];exact q
end
abbrev yn:=List (Option D)
def xa (K:PySem.W.Frag) (H:Hp) (δ:yn) (σ:St):Prop:=δ.length=σ.length/\∀ (i:Nat) (d:D),δ[i]?=some (some d)->∃ v,σ[i]?=some (some v)/\zg K H d v
theorem xa.ext {K:PySem.W.Frag}{H H':Hp}{δ:yn}{σ:St}(e:Ext H H') (r:xa K H δ σ):xa K H' δ σ:=⟨r.1,λ i d h=>by
 obtain⟨v,h1,h2⟩:=r.2 i d h;exact⟨v,h1,zg.ext e d h2⟩⟩
theorem xa.set {K:PySem.W.Frag}{H:Hp}{δ:yn}{σ:St}(i:Nat) {d:D}{v:V}(r:xa K H δ σ) (h:zg K H d v):xa K H (δ.set i (some d)) (σ.set i (some v)):=by
 refine⟨by rw[List.length_set,List.length_set];exact r.1,λ j c hc=>?_⟩;rw[List.getElem?_set] at hc ⊢;by_cases hj:i=j
 .subst hj;rw[if_pos rfl] at hc ⊢;by_cases hl:i < δ.length
  .rw[if_pos hl] at hc;rw[if_pos (by rw[<- r.1];exact hl)];cases hc;exact⟨v,rfl,h⟩
  .rw[if_neg hl] at hc;cases hc
 .rw[if_neg hj] at hc ⊢;exact r.2 j c hc
abbrev DK:=D->SS->Prop
abbrev zC:=yn->SS->DK->Prop
abbrev yJ:=yn->SS->(Bool->SS->Prop)->Prop
abbrev y6:=yn->SS->(List D->SS->Prop)->Prop
def yo (t:zC):Prop:=∀ δ S (Q Q':DK),(∀ d S',Q d S'->Q' d S')->t δ S Q->t δ S Q'
def wW (t:yJ):Prop:=∀ δ S (Q Q':Bool->SS->Prop),(∀ d S',Q d S'->Q' d S')->t δ S Q->t δ S Q'
def tZ (t:y6):Prop:=∀ δ S (Q Q':List D->SS->Prop),(∀ d S',Q d S'->Q' d S')->t δ S Q->t δ S Q'
noncomputable def wQ (K:PySem.W.Frag) (H:Hp) (Q:VK):DK:=λ d S'=>∀ v H',zg K H' d v->Ext H H'->zN K H' S'->Q v H'
def nJ (K:PySem.W.Frag) (H:Hp) (Q:Bool->Hp->Prop):Bool->SS->Prop:=λ b S'=>∀ H',Ext H H'->zN K H' S'->Q b H'
def Ro (K:PySem.W.Frag) (H:Hp) (Q:List V->Hp->Prop):List D->SS->Prop:=λ ds S'=>∀ vs H',zq K H' ds vs->Ext H H'->zN K H' S'->Q vs H'
def vd (K:PySem.W.Frag) (H:Hp) (Q:St->Hp->Prop):yn->SS->Prop:=fun δ S'=>∀ σ H',xa K H' δ σ->Ext H H'->zN K H' S'->Q σ H'
theorem wQ.ext {K:PySem.W.Frag}{H H':Hp}{Q:VK}(e:Ext H H') {d:D}{S:SS}(h:wQ K H Q d S):wQ K H' Q d S:=λ v H2 r x q=>h v H2 r (e.trans x) q
theorem nJ.ext {K:PySem.W.Frag}{H H':Hp}{Q:Bool->Hp->Prop}(e:Ext H H') {d:Bool}{S:SS}(h:nJ K H Q d S):nJ K H' Q d S:=λ H2 x q=>h H2 (e.trans x) q
theorem vd.ext {K:PySem.W.Frag}{H H':Hp}{Q:St->Hp->Prop}(e:Ext H H') {d:yn}{S:SS}(h:vd K H Q d S):vd K H' Q d S:=λ v H2 r x q=>h v H2 r (e.trans x) q
def zO (K:PySem.W.Frag) (t:zC):TE:=fun σ H Q=>∃ δ S,xa K H δ σ/\zN K H S/\t δ S (wQ K H Q)
def w9 (K:PySem.W.Frag) (t:yJ):TT:=fun σ H Q=>∃ δ S,xa K H δ σ/\zN K H S/\t δ S (nJ K H Q)
def wH (K:PySem.W.Frag) (t:y6):TA:=fun σ H Q=>∃ δ S,xa K H δ σ/\zN K H S/\t δ S (Ro K H Q)
structure PD (X:Cx) (e:Expr) (t:zC):Prop where
 mo:yo t
 pe:PE X e (zO X.K t)
structure xN (X:Cx) (e:Expr) (t:yJ):Prop where
 mo:wW t
 pt:PT X e (w9 X.K t)
structure xO (X:Cx) (es:List Expr) (t:y6):Prop where
 mo:tZ t
 pa:PA X es (wH X.K t)
theorem PE.imp {X:Cx}{e:Expr}{t t':TE}(h:PE X e t) (hi:∀ σ H Q,t' σ H Q->t σ H Q):PE X e t':=λ pins s σ H Q I q=>h pins s σ H Q I (hi σ H Q q)
theorem PT.imp {X:Cx}{e:Expr}{t t':TT}(h:PT X e t) (hi:∀ σ H Q,t' σ H Q->t σ H Q):PT X e t':=λ pins s σ H Q I q=>h pins s σ H Q I (hi σ H Q q)
theorem PA.imp {X:Cx}{e:List Expr}{t t':TA}(h:PA X e t) (hi:∀ σ H Q,t' σ H Q->t σ H Q):PA X e t':=λ pos pins s σ H Q I q=>h pos pins s σ H Q I (hi σ H Q q)
theorem PS.imp {X:Cx}{e:Stmt}{t t':TS}(h:PS X e t) (hi:∀ D σ H,t' D σ H->t D σ H):PS X e t':=λ pins s σ H Q I q=>h pins s σ H Q I (hi Q σ H q)
theorem x_.imp {X:Cx}{e:List Stmt}{t t':TS}(h:x_ X e t) (hi:∀ D σ H,t' D σ H->t D σ H):x_ X e t':=λ pins s σ H Q I q=>h pins s σ H Q I (hi Q σ H q)
section
variable {X:Cx}{K:PySem.W.Frag}
theorem zO.go {t:zC}{σ:St}{H:Hp}{Q:VK}{δ:yn}{S:SS}{R:DK}(mo:yo t) (r1:xa K H δ σ) (r2:zN K H S) (h:t δ S R) (k:∀ d S' v H',R d S'->zg K H' d v->Ext H H'->zN K H' S'->Q v H'):zO K t σ H Q:=
 ⟨δ,S,r1,r2,mo δ S _ _ (λ d S' q v H' a b c=>k d S' v H' q a b c) h⟩
theorem w9.go {t:yJ}{σ:St}{H:Hp}{Q:Bool->Hp->Prop}{δ:yn}{S:SS}{R:Bool->SS->Prop}(mo:wW t) (r1:xa K H δ σ) (r2:zN K H S) (h:t δ S R) (k:∀ d S' H',R d S'->Ext H H'->zN K H' S'->Q d H'):w9 K t σ H Q:=
 ⟨δ,S,r1,r2,mo δ S _ _ (λ d S' q H' b c=>k d S' H' q b c) h⟩
theorem wH.go {t:y6}{σ:St}{H:Hp}{Q:List V->Hp->Prop}{δ:yn}{S:SS}{R:List D->SS->Prop}(mo:tZ t) (r1:xa K H δ σ) (r2:zN K H S) (h:t δ S R) (k:∀ d S' v H',R d S'->zq K H' d v->Ext H H'->zN K H' S'->Q v H'):wH K t σ H Q:=
 ⟨δ,S,r1,r2,mo δ S _ _ (λ d S' q v H' a b c=>k d S' v H' q a b c) h⟩
def y8 (i:Nat):zC:=fun δ S Q=>match δ[i]? with
 | some (some d)=>Q d S
 | _=>False
def dC (d:D):zC:=λ _ S Q=>Q d S
theorem za (i:Nat) {x:Str}{pos:Pos}(h:PE X (.Name x pos) (jg i)):PD X (.Name x pos) (y8 i):=by
 refine⟨fun δ S Q Q' hq h=>?_,PE.imp h fun σ H Q hu=>?_⟩
 .unfold y8 at h ⊢;split at h
  .exact hq _ _ h
  .exact h
 .obtain⟨δ,S,r1,r2,h⟩:=hu;unfold y8 at h;split at h
  .rename_i d e;obtain⟨v,h1,h2⟩:=r1.2 i d e;exact⟨v,h1,h v H h2 (Ext.refl H) r2⟩
  .exact h.elim
theorem dC.mo (d:D):yo (dC d):=λ _ _ _ _ hq h=>hq _ _ h
theorem oD {e:Expr}{d:D}{v:V}(h:PE X e (tC v)) (r:∀ H,zg X.K H d v):PD X e (dC d):=
 ⟨dC.mo d,PE.imp h λ _ H _ ⟨_,_,_,r2,h⟩=>h v H (r H) (Ext.refl H) r2⟩
theorem zh {i j pos}:PD X (.Constant (.int i) j pos) (dC (.int i)):=oD WB λ _=>by simp only[zg]
theorem oE {i j pos}:PD X (.Constant (.bool i) j pos) (dC (.bl i)):=oD WN λ _=>by simp only[zg]
theorem dS {j pos}:PD X (.Constant .none j pos) (dC .zk):=oD W7 λ _=>by simp only[zg]
theorem ip {x j pos}:PD X (.Constant (.str x) j pos) (dC (.str x)):=oD W3 λ _=>by simp only[zg]
abbrev yU:=D->D->SS->DK->Prop
def xP (f:yU):Prop:=∀ x y S (Q Q':DK),(∀ d S',Q d S'->Q' d S')->f x y S Q->f x y S Q'
def xJ (K:PySem.W.Frag) (f:yU) (r:R2):Prop:=∀ x y d e H S Q,zg K H d x->zg K H e y->zN K H S->f d e S (wQ K H Q)->r x y H Q
def yw (f:yU) (ta tb:zC):zC:=fun δ S Q=>ta δ S λ x S1=>tb δ S1 λ y S2=>f x y S2 Q
theorem yw.mo {f:yU}{ta tb:zC}(hf:xP f) (ha:yo ta) (hb:yo tb):yo (yw f ta tb):=fun δ S Q Q' hq h=>
 ha δ S _ _ (λ x S1 h=>hb δ S1 _ _ (λ y S2 h=>hf x y S2 _ _ hq h) h) h
theorem mL {f:yU}{r:R2}{ta tb:zC}(hr:xJ K f r) (hf:xP f) (ha:yo ta) (hb:yo tb) {σ:St}{H:Hp}{Q:VK}(h:zO K (yw f ta tb) σ H Q):p_ r (zO K ta) (zO K tb) σ H Q:=by
 obtain⟨δ,S,r1,r2,h⟩:=h;refine zO.go ha r1 r2 h λ x S1 v H1 h1 q1 e1 p1=>?_;refine zO.go hb (r1.ext e1) p1 h1 λ y S2 w H2 h2 q2 e2 p2=>?_;exact hr v w x y H2 S2 Q (zg.ext e2 x q1) q2 p2 (hf x y S2 _ _ (λ d S' z=>z.ext (e1.trans e2)) h2)
theorem qM {a b:Expr}{op:Operator}{pos:Pos}{f:yU}{r:R2}{ta tb:zC}(ho:yr X (binaryOp op) r) (hr:xJ X.K f r) (hf:xP f) (ha:PD X a ta) (hb:PD X b tb):PD X (.BinOp a op b pos) (yw f ta tb):=
 ⟨yw.mo hf ha.mo hb.mo,PE.imp (W4 ho ha.pe hb.pe) λ _ _ _ h=>mL hr hf ha.mo hb.mo h⟩
theorem iu {a b:Expr}{op:CmpOp}{pos:Pos}{f:yU}{r:R2}{ta tb:zC}(ho:yr X (compareOp op) r) (hr:xJ X.K f r) (hf:xP f) (ha:PD X a ta) (hb:PD X b tb) (hm:behindInMarks op b=false):PD X (.Compare a [op] [b] pos) (yw f ta tb):=
 ⟨yw.mo hf ha.mo hb.mo,PE.imp (WI ho ha.pe hb.pe hm) λ _ _ _ h=>mL hr hf ha.mo hb.mo h⟩
def vL (t:zC):yJ:=fun δ S Q=>t δ S λ x S1=>match x with
 | .bl b=>Q b S1
 | _=>False
theorem vL.mo {t:zC}(h:yo t):wW (vL t):=fun δ S Q Q' hq q=>h δ S _ _ (λ d S' z=>by
 cases d <;> first
  | exact hq _ _ z
  | exact z) q
theorem sJ {a b:Expr}{op:CmpOp}{pos:Pos}{f:yU}{r:R2}{ta tb:zC}(ho:yr X (compareOp op) r) (hr:xJ X.K f r) (hf:xP f) (ha:PD X a ta) (hb:PD X b tb) (hm:behindInMarks op b=false):xN X (.Compare a [op] [b] pos) (vL (yw f ta tb)):=by
 refine⟨vL.mo (yw.mo hf ha.mo hb.mo),PT.imp (XS ho ha.pe hb.pe hm) fun σ H Q h=>?_⟩;obtain⟨δ,S,r1,r2,h⟩:=h;refine mL hr hf ha.mo hb.mo ⟨δ,S,r1,r2,yw.mo hf ha.mo hb.mo δ S _ _ (λ d S' z v H' a b c=>?_) h⟩;cases d with
 | bl k=>simp only[zg] at a;exact⟨k,a,z H' b c⟩
 | zk=>exact z.elim
 | int _=>exact z.elim
 | str _=>exact z.elim
 | tup _=>exact z.elim
 | yO _=>exact z.elim
 | ref _=>exact z.elim
def fI (C:Int->Int->Prop) (g:Int->Int->D):yU:=λ x y S Q=>match x,y with
 | .int i,.int j=>C i j/\Q (g i j) S
 | _,_=>False
theorem fI.mo {C:Int->Int->Prop}{g:Int->Int->D}:xP (fI C g):=λ x y S Q Q' hq h=>by
 unfold fI at h ⊢;split at h
 .exact⟨h.1,hq _ _ h.2⟩
 .exact h.elim
def x9 (g:Int->Int->D):yU:=λ x y S Q=>match x,y with
 | .int i,.int j=>Q (g i j) S
 | _,_=>False
theorem x9.mo {g:Int->Int->D}:xP (x9 g):=λ x y S Q Q' hq h=>by
 unfold x9 at h ⊢;split at h
 .exact hq _ _ h
 .exact h.elim
theorem fI.fits {C:Int->Int->Prop}{g:Int->Int->D}{g':Int->Int->V}(hg:∀ i j H,zg K H (g i j) (g' i j)):xJ K (fI C g) (rI C g'):=λ x y d e H S Q h1 h2 h3 h=>by
 unfold fI at h;split at h
 .simp only[zg] at h1 h2;exact⟨_,_,h1,h2,h.1,h.2 _ H (hg _ _ H) (Ext.refl H) h3⟩
 .exact h.elim
theorem x9.fits {g:Int->Int->D}{g':Int->Int->V}(hg:∀ i j H,zg K H (g i j) (g' i j)):xJ K (x9 g) (wZ g'):=λ x y d e H S Q h1 h2 h3 h=>by
 unfold x9 at h;split at h
 .simp only[zg] at h1 h2;exact⟨_,_,h1,h2,h _ H (hg _ _ H) (Ext.refl H) h3⟩
 .exact h.elim
variable {a b c:Expr}{ta tb tc:zC}{pos:Pos}
theorem tE (ha:PD X a ta) (hb:PD X b tb):PD X (.BinOp a .Sub b pos) (yw (x9 λ i j=>.int (i-j)) ta tb):=qM V1 (x9.fits λ _ _ _=>by simp only[zg]) x9.mo ha hb
theorem yy (ha:PD X a ta) (hb:PD X b tb):PD X (.BinOp a .Mod b pos) (yw (fI (λ _ j=>0<j) λ i j=>.int (i%j)) ta tb):=qM V7 (fI.fits λ _ _ _=>by simp only[zg]) fI.mo ha hb
theorem xv (ha:PD X a ta) (hb:PD X b tb):PD X (.BinOp a .FloorDiv b pos) (yw (fI xt λ i j=>.int (i/j)) ta tb):=qM VE (fI.fits λ _ _ _=>by simp only[zg]) fI.mo ha hb
theorem Va (ha:PD X a ta) (hb:PD X b tb):PD X (.BinOp a .Pow b pos) (yw (fI qw λ i j=>.int (i ^ j.toNat)) ta tb):=qM V2 (fI.fits λ _ _ _=>by simp only[zg]) fI.mo ha hb
abbrev kd:yU:=x9 λ i j=>.bl (decide (i<=j))
abbrev gp:yU:=x9 λ i j=>.bl (decide (j<i))
abbrev ke:yU:=x9 λ i j=>.bl (decide (j<=i))
theorem fit_le:xJ K kd (wZ λ i j=>.bl (decide (i<=j))):=x9.fits λ _ _ _=>by simp only[zg]
theorem SK:xJ K gp (wZ λ i j=>.bl (decide (j<i))):=x9.fits λ _ _ _=>by simp only[zg]
theorem bH:xJ K ke (wZ λ i j=>.bl (decide (j<=i))):=x9.fits λ _ _ _=>by simp only[zg]
theorem dW (ha:PD X a ta) (hb:PD X b tb):PD X (.Compare a [.GtE] [b] pos) (yw ke ta tb):=iu d_ bH x9.mo ha hb (uS _)
theorem WQ (ha:PD X a ta) (hb:PD X b tb):xN X (.Compare a [.LtE] [b] pos) (vL (yw kd ta tb)):=sJ i0 fit_le x9.mo ha hb (uS _)
theorem ly (ha:PD X a ta) (hb:PD X b tb):xN X (.Compare a [.Gt] [b] pos) (vL (yw gp ta tb)):=sJ VD SK x9.mo ha hb (uS _)
theorem dJ (ha:PD X a ta) (hb:PD X b tb):xN X (.Compare a [.GtE] [b] pos) (vL (yw ke ta tb)):=sJ d_ bH x9.mo ha hb (uS _)
end
end L3
namespace L3
open PySem PySem.Spec L2
open PyProof.Rows hiding St
section
variable {X:Cx}{K:PySem.W.Frag}{a b c:Expr}{ta tb tc:zC}{pos:Pos}
def nS (ta tb:zC):zC:=fun δ S Q=>ta δ S λ x S1=>match x with
 | .bl k=>if k=true then tb δ S1 Q else Q (.bl false) S1
 | _=>False
def nM (ta:zC):zC:=fun δ S Q=>ta δ S λ x S1=>match x with
 | .bl k=>Q (.bl (!k)) S1
 | _=>False
theorem vb {c:Prop} [Decidable c] {A B A' B':Prop}(h1:A->A') (h2:B->B') (h:if c then A else B):if c then A' else B':=by
 by_cases q:c
 .rw[if_pos q] at h ⊢;exact h1 h
 .rw[if_neg q] at h ⊢;exact h2 h
theorem nS.mo (ha:yo ta) (hb:yo tb):yo (nS ta tb):=fun δ S Q Q' hq h=>ha δ S _ _ (λ x S1 z=>by
 cases x <;> first
  | exact vb (hb δ S1 _ _ hq) (hq _ _) z
  | exact z) h
theorem nM.mo (ha:yo ta):yo (nM ta):=fun δ S Q Q' hq h=>ha δ S _ _ (λ x S1 z=>by
 cases x <;> first
  | exact hq _ _ z
  | exact z) h
theorem iq {op} {t:zC}(h:PD X a t):PD X (.BoolOp op [a] pos) t:=⟨h.mo,W5 h.pe⟩
variable {rest:List Expr}
theorem iw (ha:PD X a ta) (hb:PD X (.BoolOp .And (b::rest) pos) tb):PD X (.BoolOp .And (a::b::rest) pos) (nS ta tb):=by
 refine⟨nS.mo ha.mo hb.mo,PE.imp (WO ha.pe hb.pe) fun σ H Q hu=>?_⟩;obtain⟨δ,S,r1,r2,h⟩:=hu;refine zO.go ha.mo r1 r2 h λ x S1 v H1 h1 q1 e1 p1=>?_;cases x with
 | bl k=>
  simp only[zg] at q1;refine⟨k,q1,vb (λ z=>?_) (λ z=>?_) h1⟩
  .exact zO.go hb.mo (r1.ext e1) p1 z λ y S2 w H2 h2 q2 e2 p2=>h2 w H2 q2 (e1.trans e2) p2
  .exact z _ H1 (by simp only[zg]) e1 p1
 | zk=>exact h1.elim
 | int _=>exact h1.elim
 | str _=>exact h1.elim
 | tup _=>exact h1.elim
 | yO _=>exact h1.elim
 | ref _=>exact h1.elim
theorem Vb (ha:PD X a ta):PD X (.UnaryOp .Not a pos) (nM ta):=by
 refine⟨nM.mo ha.mo,PE.imp (W6 ha.pe) fun σ H Q hu=>?_⟩;obtain⟨δ,S,r1,r2,h⟩:=hu;refine zO.go ha.mo r1 r2 h λ x S1 v H1 h1 q1 e1 p1=>?_;cases x with
 | bl k=>
  simp only[zg] at q1;exact⟨k,q1,h1 _ H1 (by simp only[zg]) e1 p1⟩
 | zk=>exact h1.elim
 | int _=>exact h1.elim
 | str _=>exact h1.elim
 | tup _=>exact h1.elim
 | yO _=>exact h1.elim
 | ref _=>exact h1.elim
def nG (t u:yJ):yJ:=fun δ S Q=>t δ S λ k S1=>if k=true then u δ S1 Q else Q false S1
def nE (t u:yJ):yJ:=fun δ S Q=>t δ S λ k S1=>if k=true then Q true S1 else u δ S1 Q
def nF (t:yJ):yJ:=fun δ S Q=>t δ S λ k S1=>Q (!k) S1
variable {t u:yJ}
theorem nG.mo (h:wW t) (h':wW u):wW (nG t u):=fun δ S _ _ hq z=>h δ S _ _ (λ k S1 z=>vb (h' δ S1 _ _ hq) (hq _ _) z) z
theorem nE.mo (h:wW t) (h':wW u):wW (nE t u):=fun δ S _ _ hq z=>h δ S _ _ (λ k S1 z=>vb (hq _ _) (h' δ S1 _ _ hq) z) z
theorem nF.mo (h:wW t):wW (nF t):=fun δ S _ _ hq z=>h δ S _ _ (λ k S1 z=>hq _ _ z) z
structure wy (X:Cx) (e:Expr) (t:yJ):Prop where
 mo:wW t
 pw:PW X e (w9 X.K t)
theorem PW.imp {e:Expr}{t t':TT}(h:PW X e t) (hi:∀ σ H Q,t' σ H Q->t σ H Q):PW X e t':=λ whole pins s σ H Q I q=>h whole pins s σ H Q I (hi σ H Q q)
theorem wy.pt {e:Expr}{t:yJ}(h:wy X e t):xN X e t:=⟨h.mo,PW.pt h.pw⟩
theorem o8 (h:xN X a t):wy X (.BoolOp .And [a] pos) t:=⟨h.mo,XJ h.pt⟩
theorem o6 (h:xN X a t):wy X (.BoolOp .Or [a] pos) t:=⟨h.mo,XH h.pt⟩
theorem o9 (ha:xN X a t) (hb:wy X (.BoolOp .And (b::rest) pos) u):wy X (.BoolOp .And (a::b::rest) pos) (nG t u):=by
 refine⟨nG.mo ha.mo hb.mo,PW.imp (XM ha.pt hb.pw) fun σ H Q hu=>?_⟩;obtain⟨δ,S,r1,r2,h⟩:=hu;refine w9.go ha.mo r1 r2 h λ k S1 H1 h1 e1 p1=>vb (λ z=>?_) (λ z=>z H1 e1 p1) h1;exact w9.go hb.mo (r1.ext e1) p1 z λ y S2 H2 h2 e2 p2=>h2 H2 (e1.trans e2) p2
theorem o7 (ha:xN X a t) (hb:wy X (.BoolOp .Or (b::rest) pos) u):wy X (.BoolOp .Or (a::b::rest) pos) (nE t u):=by
 refine⟨nE.mo ha.mo hb.mo,PW.imp (XI ha.pt hb.pw) fun σ H Q hu=>?_⟩;obtain⟨δ,S,r1,r2,h⟩:=hu;refine w9.go ha.mo r1 r2 h λ k S1 H1 h1 e1 p1=>vb (λ z=>z H1 e1 p1) (λ z=>?_) h1;exact w9.go hb.mo (r1.ext e1) p1 z λ y S2 H2 h2 e2 p2=>h2 H2 (e1.trans e2) p2
theorem qJ (ha:xN X a t):xN X (.UnaryOp .Not a pos) (nF t):=by
 refine⟨nF.mo ha.mo,PT.imp (XR ha.pt) fun σ H Q hu=>?_⟩;obtain⟨δ,S,r1,r2,h⟩:=hu;exact w9.go ha.mo r1 r2 h λ k S1 H1 h1 e1 p1=>h1 H1 e1 p1
def nN (t:yJ) (ta tb:zC):zC:=fun δ S Q=>t δ S λ k S1=>if k=true then ta δ S1 Q else tb δ S1 Q
theorem nN.mo (h:wW t) (ha:yo ta) (hb:yo tb):yo (nN t ta tb):=fun δ S _ _ hq z=>h δ S _ _ (λ k S1 z=>vb (ha δ S1 _ _ hq) (hb δ S1 _ _ hq) z) z
theorem Vk (hc:xN X c t) (ha:PD X a ta) (hb:PD X b tb):PD X (.IfExp c a b pos) (nN t ta tb):=by
 refine⟨nN.mo hc.mo ha.mo hb.mo,PE.imp (WC hc.pt ha.pe hb.pe) fun σ H Q hu=>?_⟩;obtain⟨δ,S,r1,r2,h⟩:=hu;refine w9.go hc.mo r1 r2 h λ k S1 H1 h1 e1 p1=>vb (λ z=>?_) (λ z=>?_) h1
 .exact zO.go ha.mo (r1.ext e1) p1 z λ y S2 w H2 h2 q2 e2 p2=>h2 w H2 q2 (e1.trans e2) p2
 .exact zO.go hb.mo (r1.ext e1) p1 z λ y S2 w H2 h2 q2 e2 p2=>h2 w H2 q2 (e1.trans e2) p2
def vx (d:D) (S:SS) (Q:Bool->SS->Prop):Prop:=match d with
 | .zk=>Q false S
 | .bl k=>Q k S
 | .int i=>Q (i != 0) S
 | .str x=>x.length<=sizeLine/\Q ((x.length:Int) != 0) S
 | .tup ds=>Q (!ds.isEmpty) S
 | .yO ds=>Q (!ds.isEmpty) S
 | .ref p=>match S p with
  | some (.lst ds)=>Q (!ds.isEmpty) S
  | some (.yg kvs)=>Q (!kvs.isEmpty) S
  | none=>False
def bZ (ta:zC):yJ:=fun δ S Q=>ta δ S λ x S1=>vx x S1 Q
theorem vx.mo {d:D}{S:SS}{Q Q':Bool->SS->Prop}(hq:∀ k S',Q k S'->Q' k S') (h:vx d S Q):vx d S Q':=by
 cases d with
 | str x=>exact⟨h.1,hq _ _ h.2⟩
 | ref p=>
  unfold vx at h ⊢;dsimp only at h ⊢;split at h
  .exact hq _ _ h
  .exact hq _ _ h
  .exact h
 | _=>exact hq _ _ h
theorem zq.isEmpty {H:Hp}{ds:List D}{xs:List V}(h:zq K H ds xs):ds.isEmpty=xs.isEmpty:=by
 have:=h.length;cases ds <;> cases xs <;> simp_all
theorem Qx {α β:Type}{F:α->β->Prop}{xs:List α}{ys:List β}(h:Paired F xs ys):xs.isEmpty=ys.isEmpty:=by cases h <;> rfl
theorem vx.fits {H:Hp}{d:D}{v:V}{S:SS}{Q:Bool->Hp->Prop}(r:zg K H d v) (p:zN K H S) (h:vx d S (nJ K H Q)):∃ k,gR K v H k/\Q k H:=by
 cases d with
 | zk=>simp only[zg] at r;subst r;exact⟨false,rfl,h H (.refl H) p⟩
 | bl k=>simp only[zg] at r;subst r;exact⟨k,rfl,h H (.refl H) p⟩
 | int i=>simp only[zg] at r;subst r;exact⟨_,rfl,h H (.refl H) p⟩
 | str x=>simp only[zg] at r;subst r;exact⟨_,⟨h.1,rfl⟩,h.2 H (.refl H) p⟩
 | tup ds=>
  simp only[zg] at r;obtain⟨a,xs,rfl,r1,r2⟩:=r;exact⟨_,.inr (.inl ⟨xs,r1,by rw[r2.isEmpty]⟩),h H (.refl H) p⟩
 | yO ds=>
  simp only[zg] at r;obtain⟨a,xs,rfl,r1,r2⟩:=r;exact⟨_,.inl ⟨xs,r1.sq,by rw[r2.isEmpty]⟩,h H (.refl H) p⟩
 | ref a=>
  simp only[zg] at r;subst r;unfold vx at h;dsimp only at h;split at h
  .rename_i ds e;obtain⟨xs,e1,r2⟩:=p a _ e;exact⟨_,.inl ⟨xs,zQ.of e1,by rw[r2.isEmpty]⟩,h H (.refl H) p⟩
  .rename_i kvs e;obtain⟨xs,e1,r2⟩:=p a _ e;exact⟨_,.inr (.inr ⟨xs,e1,by rw[Qx r2]⟩),h H (.refl H) p⟩
  .exact h.elim
theorem tD (ha:PD X a ta) (he:∀ whole,isTrue a X.env whole=(do let v <- whole;standAt a.pos;holding [v] (truthy v)):=by intro _;rfl):xN X a (bZ ta):=by
 refine⟨fun δ S Q Q' hq h=>ha.mo δ S _ _ (λ x S1 z=>vx.mo hq z) h,PT.imp (XQ ha.pe he) fun σ H Q hu=>?_⟩;obtain⟨δ,S,r1,r2,h⟩:=hu;refine zO.go ha.mo r1 r2 h λ x S1 v H1 h1 q1 e1 p1=>?_;exact vx.fits q1 p1 (vx.mo (λ k S' z=>z.ext e1) h1)
def kj:y6:=λ _ S Q=>Q [] S
def r_ (te:zC) (tr:y6):y6:=fun δ S Q=>te δ S λ x S1=>tr δ S1 λ xs S2=>Q (x::xs) S2
variable {e:Expr}{es:List Expr}{te:zC}{tA:y6}
theorem r_.mo (h:yo te) (h':tZ tA):tZ (r_ te tA):=fun δ S _ _ hq z=>h δ S _ _ (λ x S1 z=>h' δ S1 _ _ (λ xs S2 z=>hq _ _ z) z) z
theorem zp:xO X [] kj:=⟨λ _ _ _ _ hq h=>hq _ _ h,PA.imp qP fun σ H Q ⟨_,_,_,r2,h⟩=>h [] H .nil (.refl H) r2⟩
theorem ze (ha:PD X e te) (hr:xO X es tA) (hs:starEach (e::es) X.env=(false,eval e X.env)::starEach es X.env:=by rfl):xO X (e::es) (r_ te tA):=by
 refine⟨r_.mo ha.mo hr.mo,PA.imp (rH ha.pe hr.pa hs) fun σ H Q hu=>?_⟩;obtain⟨δ,S,r1,r2,h⟩:=hu;refine zO.go ha.mo r1 r2 h λ x S1 v H1 h1 q1 e1 p1=>?_;refine wH.go hr.mo (r1.ext e1) p1 h1 λ xs S2 w H2 h2 q2 e2 p2=>?_;exact h2 (v::w) H2 (.cons (zg.ext e2 x q1) q2) (e1.trans e2) p2
def ak (t:y6):zC:=fun δ S Q=>t δ S λ ds S1=>ds.length<=sizeLine/\Q (.tup ds) S1
def au (t:y6):zC:=fun δ S Q=>t δ S λ ds S1=>ds.length<=sizeLine/\∀ p,S1 p=none->Q (.ref p) (ups S1 p (.lst ds))
theorem xc {k} (h:xO X es tA):PD X (.Tuple es k pos) (ak tA):=by
 refine⟨fun δ S _ _ hq z=>h.mo δ S _ _ (λ ds S1 z=>⟨z.1,hq _ _ z.2⟩) z,PE.imp (W2 h.pa) fun σ H Q hu=>?_⟩;obtain⟨δ,S,r1,r2,h'⟩:=hu;refine wH.go h.mo r1 r2 h' λ ds S1 xs H1 h1 q1 e1 p1=>⟨by rw[<- q1.length];exact h1.1,λ p hp=>?_⟩;refine h1.2 _ _ ?_ (e1.trans (.new hp _)) (p1.new hp);simp only[zg];exact⟨p,xs,rfl,yb.of yL,zq.ext (.new hp _) ds q1⟩
theorem xT (h:xO X es tA):PD X (.List es pos) (au tA):=by
 refine⟨fun δ S _ _ hq z=>h.mo δ S _ _ (λ ds S1 z=>⟨z.1,λ p hp=>hq _ _ (z.2 p hp)⟩) z,PE.imp (W8 h.pa) fun σ H Q hu=>?_⟩;obtain⟨δ,S,r1,r2,h'⟩:=hu;refine wH.go h.mo r1 r2 h' λ ds S1 xs H1 h1 q1 e1 p1=>⟨by rw[<- q1.length];exact h1.1,λ p hp=>?_⟩;refine h1.2 p (p1.none hp) _ _ (by simp only[zg]) (e1.trans (.new hp _)) ?_;exact p1.ups (.new hp _) ⟨xs,yL,zq.ext (.new hp _) ds q1⟩
def wF:yU:=λ x y S Q=>match x,y with
 | .tup ds,.int i=>match yd ds i with
  | some d=>Q d S
  | none=>False
 | .yO ds,.int i=>match yd ds i with
  | some d=>Q d S
  | none=>False
 | .ref p,.int i=>match S p with
  | some (.lst ds)=>match yd ds i with
   | some d=>Q d S
   | none=>False
  | _=>False
 | _,_=>False
theorem wF.mo:xP wF:=λ x y S Q Q' hq h=>by
 unfold wF at h ⊢;split at h
 .skip
  split at h
  .exact hq _ _ h
  .exact h
 .skip
  split at h
  .exact hq _ _ h
  .exact h
 .skip
  split at h
  .skip
   split at h
   .exact hq _ _ h
   .exact h
  .exact h.elim
 .exact h.elim
theorem zq.yd {H:Hp}{ds:List D}{xs:List V}{i:Int}{d:D}(h:zq K H ds xs) (e:L2.yd ds i=some d):∃ x,L2.yd xs i=some x/\zg K H d x:=by
 unfold L2.yd at e ⊢;rw[h.length] at e;cases q:va xs.length i with
 | none=>rw[q] at e;cases e
 | some j=>
  rw[q] at e;exact h.get e
theorem wF.fits:xJ K wF (dk K):=λ x y d e H S Q h1 h2 h3 h=>by
 unfold wF at h;split at h
 .split at h
  .rename_i q;simp only[zg] at h1 h2;obtain⟨a,xs,rfl,r1,r2⟩:=h1;obtain⟨x',e1,e2⟩:=r2.yd q;exact .inr (.inl ⟨a,xs,_,x',rfl,h2,r1,e1,h x' H e2 (.refl H) h3⟩)
  .exact h.elim
 .split at h
  .rename_i q;simp only[zg] at h1 h2;obtain⟨a,xs,rfl,r1,r2⟩:=h1;obtain⟨x',e1,e2⟩:=r2.yd q;exact .inl ⟨a,xs,_,x',rfl,h2,r1.sq,e1,h x' H e2 (.refl H) h3⟩
  .exact h.elim
 .split at h
  .rename_i q0;split at h
   .rename_i q;simp only[zg] at h1 h2;subst h1;obtain⟨xs,r1,r2⟩:=h3 _ _ q0;obtain⟨x',e1,e2⟩:=r2.yd q;exact .inl ⟨_,xs,_,x',rfl,h2,zQ.of r1,e1,h x' H e2 (.refl H) h3⟩
   .exact h.elim
  .exact h.elim
 .exact h.elim
theorem zG (ha:PD X a ta) (hb:PD X b tb) (hs:Zd b:=by exact λ _ _=>rfl):PD X (.Subscript a b pos) (yw wF ta tb):=
 ⟨yw.mo wF.mo ha.mo hb.mo,PE.imp (WA TC ha.pe hb.pe hs) λ _ _ _ h=>mL wF.fits wF.mo ha.mo hb.mo h⟩
abbrev xM:=List D->SS->DK->Prop
def vR (f:xM):Prop:=∀ ds S (Q Q':DK),(∀ d S',Q d S'->Q' d S')->f ds S Q->f ds S Q'
def uF (K:PySem.W.Frag) (f:xM) (r:List V->Hp->VK->Prop):Prop:=∀ xs ds H S Q,zq K H ds xs->zN K H S->f ds S (wQ K H Q)->r xs H Q
def xK (f:xM) (t:y6):zC:=fun δ S Q=>t δ S λ ds S1=>f ds S1 Q
theorem xK.mo {f:xM}(hf:vR f) (h:tZ tA):yo (xK f tA):=fun δ S _ _ hq z=>h δ S _ _ (λ ds S1 z=>hf ds S1 _ _ hq z) z
theorem el {f:xM}{r:List V->Hp->VK->Prop}(hf:vR f) (hr:uF K f r) (h:tZ tA) {σ:St}{H:Hp}{Q:VK}(hu:zO K (xK f tA) σ H Q):mQ r (wH K tA) σ H Q:=by
 obtain⟨δ,S,r1,r2,h'⟩:=hu;refine wH.go h r1 r2 h' λ ds S1 xs H1 h1 q1 e1 p1=>?_;exact hr xs ds H1 S1 Q q1 p1 (hf ds S1 _ _ (λ d S' z=>z.ext e1) h1)
theorem uQ {f:xM}{r:List V->Hp->VK->Prop}{e:Expr}(h:PE X e (mQ r (wH X.K tA))) (hf:vR f) (hr:uF X.K f r) (ha:tZ tA):PD X e (xK f tA):=
 ⟨xK.mo hf ha,PE.imp h λ _ _ _ hu=>el hf hr ha hu⟩
noncomputable def zZ (d:D) (S:SS):Option (List D):=match d with
 | .tup ds=>some ds
 | .yO ds=>some ds
 | .ref p=>match S p with
  | some (.lst ds)=>some ds
  | _=>none
 | _=>none
theorem zZ.sq {H:Hp}{S:SS}{d:D}{v:V}{ds:List D}(r:zg K H d v) (p:zN K H S) (e:zZ d S=some ds):∃ a xs,v=.ref a/\(zQ K H a xs\/yb K H a xs)/\zq K H ds xs:=by
 unfold zZ at e;split at e
 .cases e;simp only[zg] at r;obtain⟨a,xs,h1,h2,h3⟩:=r;exact⟨a,xs,h1,.inr h2,h3⟩
 .cases e;simp only[zg] at r;obtain⟨a,xs,h1,h2,h3⟩:=r;exact⟨a,xs,h1,.inl h2.sq,h3⟩
 .split at e
  .rename_i q;cases e;simp only[zg] at r;subst r;obtain⟨xs,h1,h2⟩:=p _ _ q;exact⟨_,xs,rfl,.inl (zQ.of h1),h2⟩
  .cases e
 .cases e
theorem zq.one {H:Hp}{d:D}{xs:List V}(h:zq K H [d] xs):∃ x,xs=[x]/\zg K H d x:=by
 simp only[zq] at h;obtain⟨x,r,rfl,h2,rfl⟩:=h;exact⟨x,rfl,h2⟩
theorem zq.two {H:Hp}{d d':D}{xs:List V}(h:zq K H [d,d'] xs):∃ x y,xs=[x,y]/\zg K H d x/\zg K H d' y:=by
 simp only[zq] at h;obtain⟨x,r,rfl,h2,y,r',rfl,h3,rfl⟩:=h;exact⟨x,y,rfl,h2,h3⟩
def uj:xM:=λ ds S Q=>match ds with
 | [d]=>match zZ d S with
  | some ds=>Q (.int ds.length) S
  | none=>match d with
   | .str z=>z.length<=sizeLine/\Q (.int z.length) S
   | _=>False
 | _=>False
theorem uj.mo:vR uj:=λ ds S Q Q' hq h=>by
 unfold uj at h ⊢;split at h
 .skip
  split at h
  .exact hq _ _ h
  .split at h
   .exact⟨h.1,hq _ _ h.2⟩
   .exact h.elim
 .exact h.elim
abbrev XG (K:PySem.W.Frag):List V->Hp->VK->Prop:=λ xs H Q=>(∃ p ys,xs=[.ref p]/\(zQ K H p ys\/yb K H p ys)/\Q (.int ys.length) H)\/(∃ z,xs=[.str z]/\z.length<=sizeLine/\Q (.int z.length) H)
theorem uj.fits:uF K uj (XG K):=λ xs ds H S Q h0 h2 h=>by
 unfold uj at h;split at h
 .obtain⟨x,hx,h1⟩:=h0.one;subst hx;split at h
  .rename_i e;obtain⟨a,ys,rfl,q,r⟩:=zZ.sq h1 h2 e;refine .inl ⟨a,ys,rfl,q,?_⟩;rw[<- r.length];exact h _ H (by simp only[zg]) (.refl H) h2
  .split at h
   .simp only[zg] at h1;subst h1;exact .inr ⟨_,rfl,h.1,h.2 _ H (by simp only[zg]) (.refl H) h2⟩
   .exact h.elim
 .exact h.elim
def ui:xM:=λ ds S Q=>match ds with
 | [d]=>match zZ d S with
  | some ds=>∀ p,S p=none->Q (.ref p) (ups S p (.lst ds))
  | none=>False
 | _=>False
theorem ui.mo:vR ui:=λ ds S Q Q' hq h=>by
 unfold ui at h ⊢;split at h
 .skip
  split at h
  .exact λ p hp=>hq _ _ (h p hp)
  .exact h.elim
 .exact h.elim
theorem ui.fits:uF K ui (λ xs H Q=>∃ p ys,xs=[.ref p]/\(zQ K H p ys\/yb K H p ys)/\∀ l,H l=none->Q (.ref l) (upd H l (.lst ys))):=λ xs ds H S Q h0 h2 h=>by
 unfold ui at h;split at h
 .obtain⟨x,hx,h1⟩:=h0.one;subst hx;split at h
  .rename_i e;obtain⟨a,ys,rfl,q,r⟩:=zZ.sq h1 h2 e;refine⟨a,ys,rfl,q,λ l hl=>?_⟩;exact h l (h2.none hl) _ _ (by simp only[zg]) (.new hl _) (h2.ups (.new hl _) ⟨ys,yL,zq.ext (.new hl _) _ r⟩)
  .exact h.elim
 .exact h.elim
def uh:xM:=λ ds S Q=>match ds with
 | [.tup ds]=>Q (.tup ds) S
 | [.yO ds]=>Q (.tup ds) S
 | [.ref p]=>match S p with
  | some (.lst ds)=>Q (.tup ds) S
  | _=>False
 | _=>False
theorem uh.mo:vR uh:=λ ds S Q Q' hq h=>by
 unfold uh at h ⊢;split at h
 .exact hq _ _ h
 .exact hq _ _ h
 .skip
  split at h
  .exact hq _ _ h
  .exact h.elim
 .exact h.elim
theorem uh.fits:uF K uh (λ xs H Q=>∃ p ys,xs=[.ref p]/\((zQ K H p ys/\∀ l,H l=none->Q (.ref l) (upd H l (.tup ys)))\/(yb K H p ys/\Q (.ref p) H))):=λ xs ds H S Q h0 h2 h=>by
 unfold uh at h;split at h
 .obtain⟨x,hx,h1⟩:=h0.one;subst hx;have h1':=h1;simp only[zg] at h1;obtain⟨a,xs,rfl,r1,r2⟩:=h1;exact⟨a,xs,rfl,.inr ⟨r1,h _ H h1' (.refl H) h2⟩⟩
 .obtain⟨x,hx,h1⟩:=h0.one;subst hx;simp only[zg] at h1;obtain⟨a,xs,rfl,r1,r2⟩:=h1;refine⟨a,xs,rfl,.inl ⟨r1.sq,λ l hl=>h _ _ ?_ (.new hl _) (h2.new hl)⟩⟩;simp only[zg];exact⟨l,xs,rfl,yb.of yL,zq.ext (.new hl _) _ r2⟩
 .obtain⟨x,hx,h1⟩:=h0.one;subst hx;split at h
  .rename_i e;simp only[zg] at h1;subst h1;obtain⟨xs,r1,r2⟩:=h2 _ _ e;refine⟨_,xs,rfl,.inl ⟨zQ.of r1,λ l hl=>h _ _ ?_ (.new hl _) (h2.new hl)⟩⟩;simp only[zg];exact⟨l,xs,rfl,yb.of yL,zq.ext (.new hl _) _ r2⟩
  .exact h.elim
 .exact h.elim
def vJ (g:Int->Int->D):xM:=λ ds S Q=>match ds with
 | [.int i,.int j]=>Q (g i j) S
 | _=>False
theorem vJ.mo {g:Int->Int->D}:vR (vJ g):=λ ds S Q Q' hq h=>by
 unfold vJ at h ⊢;split at h
 .exact hq _ _ h
 .exact h.elim
theorem vJ.fits {g:Int->Int->D}{g':Int->Int->V}(hg:∀ i j H,zg K H (g i j) (g' i j)):uF K (vJ g) (λ xs H Q=>∃ i j,xs=[.int i,.int j]/\Q (g' i j) H):=λ xs ds H S Q h0 h2 h=>by
 unfold vJ at h;split at h
 .obtain⟨x,y,hx,h1,h3⟩:=h0.two;subst hx;simp only[zg] at h1 h3;subst h1 h3;exact⟨_,_,rfl,h _ H (hg _ _ H) (.refl H) h2⟩
 .exact h.elim
def zad:yU:=λ x y S Q=>match x,y with
 | .ref p,.ref q=>match S p,S q with
  | some (.lst ds),some (.lst es)=>ds.length+es.length<=sizeLine/\∀ r,S r=none->Q (.ref r) (ups S r (.lst (ds++es)))
  | _,_=>False
 | _,_=>False
def s_ (to te:zC):zC:=fun δ S Q=>to δ S λ x S1=>match x with
 | .ref p=>(∃ ds,S1 p=some (.lst ds))/\te δ S1 λ y S2=>match S2 p with
  | some (.lst ds)=>ds.length<sizeLine/\Q .zk (ups S2 p (.lst (ds++[y])))
  | _=>False
 | _=>False
theorem s_.mo {to te:zC}(h:yo to) (h':yo te):yo (s_ to te):=fun δ S Q Q' hq z=>h δ S _ _ (λ x S1 z=>by
 cases x with
 | ref p=>
  refine⟨z.1,h' δ S1 _ _ (λ y S2 w=>?_) z.2⟩;split at w
  .exact⟨w.1,hq _ _ w.2⟩
  .exact w.elim
 | _=>exact z) z
theorem Vu {o e:Expr}{to te:zC}{e0:Expr}(hpe:PE X e0 (jk X.K "list" d7 (zO X.K to) (jj (zO X.K te) jh))) (h:yo to) (h':yo te):PD X e0 (s_ to te):=by
 refine⟨s_.mo h h',PE.imp hpe fun σ H Q hu=>?_⟩;obtain⟨δ,S,r1,r2,z⟩:=hu;refine zO.go h r1 r2 z λ x S1 v H1 h1 q1 e1 p1=>?_;cases x with
 | ref p=>
  obtain⟨⟨ds,hd⟩,h1⟩:=h1;simp only[zg] at q1;subst q1;obtain⟨xs,g1,g2⟩:=p1 _ _ hd;refine⟨.inl ⟨rfl,xs,zQ.of g1⟩,?_⟩;refine zO.go h' (r1.ext e1) p1 h1 λ y S2 w H2 h2 q2 e2 p2=>?_;split at h2
  .rename_i ds' e3;obtain⟨xs',g3,g4⟩:=p2 _ _ e3;refine⟨p,xs',w,rfl,rfl,g3,by rw[<- g4.length];exact h2.1,?_⟩;have e4:Ext H2 (upd H2 p (.lst (xs'++[w]))):=.lst g3 _;exact h2.2 _ _ (by simp only[zg]) ((e1.trans e2).trans e4) (p2.ups e4 ⟨_,yL,zq.ext e4 _ (g4.snoc q2)⟩)
  .exact h2.elim
 | zk=>exact h1.elim
 | bl _=>exact h1.elim
 | int _=>exact h1.elim
 | str _=>exact h1.elim
 | tup _=>exact h1.elim
 | yO _=>exact h1.elim
end
structure sj where
 nx:yn->SS->Prop
 rt:DK
 bk:yn->SS->Prop:=λ _ _=>False
 ct:yn->SS->Prop:=λ _ _=>False
abbrev yP:=sj->yn->SS->Prop
structure sj.Le (E E':sj):Prop where
 nx:∀ δ S,E.nx δ S->E'.nx δ S
 rt:∀ d S,E.rt d S->E'.rt d S
 bk:∀ δ S,E.bk δ S->E'.bk δ S
 ct:∀ δ S,E.ct δ S->E'.ct δ S
def tw (t:yP):Prop:=∀ E E' δ S,sj.Le E E'->t E δ S->t E' δ S
noncomputable def tf (K:PySem.W.Frag) (H:Hp) (D:Ends):sj:=⟨vd K H D.nx,wQ K H D.rt,vd K H D.bk,vd K H D.ct⟩
theorem tf.ext {K:PySem.W.Frag}{H H':Hp}{D:Ends}(e:Ext H H'):(tf K H D).Le (tf K H' D):=⟨λ _ _ h=>vd.ext e h,λ _ _ h=>wQ.ext e h,λ _ _ h=>vd.ext e h,λ _ _ h=>vd.ext e h⟩
def ja (K:PySem.W.Frag) (t:yP):TS:=λ D σ H=>∃ δ S,xa K H δ σ/\zN K H S/\t (tf K H D) δ S
structure vq (X:Cx) (st:Stmt) (t:yP):Prop where
 mo:tw t
 ps:PS X st (ja X.K t)
structure vQ (X:Cx) (st:List Stmt) (t:yP):Prop where
 mo:tw t
 ps:x_ X st (ja X.K t)
section
variable {X:Cx}{K:PySem.W.Frag}{st:Stmt}{rest:List Stmt}{t u:yP}{pos:Pos}{e:Expr}{te:zC}
def ao:yP:=λ E δ S=>E.nx δ S
def p8 (t u:yP):yP:=λ E δ S=>t { E with nx:=u E } δ S
theorem p8.mo (h:tw t) (h':tw u):tw (p8 t u):=λ E E' δ S hE z=>h { E with nx:=u E } { E' with nx:=u E' } δ S ⟨fun δ S q=>h' E E' δ S hE q,hE.rt,hE.bk,hE.ct⟩ z
theorem xB:vQ X [] ao:=⟨λ _ _ _ _ hE h=>hE.nx _ _ h,x_.imp XU λ D σ H ⟨δ,S,r1,r2,h⟩=>h σ H r1 (.refl H) r2⟩
theorem zI (h:vq X st t):vQ X [st] t:=⟨h.mo,XT h.ps⟩
theorem zD (h:vq X st t) (h':vQ X rest u):vQ X (st::rest) (p8 t u):=by
 refine⟨p8.mo h.mo h'.mo,x_.imp (XW h.ps h'.ps) λ D σ H hu=>?_⟩;obtain⟨δ,S,r1,r2,z⟩:=hu;refine⟨δ,S,r1,r2,h.mo { tf X.K H D with nx:=u (tf X.K H D) } _ δ S ⟨fun δ' S' q σ' H' q1 q2 q3=>?_,λ _ _ q=>q,λ _ _ q=>q,λ _ _ q=>q⟩ z⟩;exact⟨δ',S',q1,q3,h'.mo _ _ δ' S' (tf.ext q2) q⟩
def nQ (te:zC):yP:=λ E δ S=>te δ S λ _ S1=>E.nx δ S1
theorem vk (he:PD X e te) (hs:swapsWith e none pos.line X.env=pure false:=by rfl):vq X (.Expr e pos) (nQ te):=by
 refine⟨λ E E' δ S hE z=>he.mo δ S _ _ (λ _ _ q=>hE.nx _ _ q) z,PS.imp (Wc he.pe hs) λ D σ H hu=>?_⟩;obtain⟨δ,S,r1,r2,z⟩:=hu;exact zO.go he.mo r1 r2 z λ x S1 v H1 h1 q1 e1 p1=>h1 σ H1 (r1.ext e1) e1 p1
def gz (te:zC):yP:=λ E δ S=>te δ S E.rt
theorem yh (he:PD X e te):vq X (.Return (some e) pos) (gz te):=by
 refine⟨λ E E' δ S hE z=>he.mo δ S _ _ (λ _ _ q=>hE.rt _ _ q) z,PS.imp (X_ he.pe) λ D σ H hu=>?_⟩;obtain⟨δ,S,r1,r2,z⟩:=hu;exact zO.go he.mo r1 r2 z λ x S1 v H1 h1 q1 e1 p1=>h1 v H1 q1 e1 p1
def aw (c:yJ) (t u:yP):yP:=λ E δ S=>c δ S λ k S1=>if k=true then t E δ S1 else u E δ S1
theorem xC {c:Expr}{p q:List Stmt}{tc:yJ}(hc:xN X c tc) (h:vQ X p t) (h':vQ X q u):vq X (.If c p q pos) (aw tc t u):=by
 refine⟨λ E E' δ S hE z=>hc.mo δ S _ _ (λ k S1 z=>vb (h.mo _ _ δ S1 hE) (h'.mo _ _ δ S1 hE) z) z,PS.imp (Wa hc.pt h.ps h'.ps) λ D σ H hu=>?_⟩;obtain⟨δ,S,r1,r2,z⟩:=hu;refine w9.go hc.mo r1 r2 z λ k S1 H1 h1 e1 p1=>vb (λ z=>?_) (λ z=>?_) h1
 .exact⟨δ,S1,r1.ext e1,p1,h.mo _ _ δ S1 (tf.ext e1) z⟩
 .exact⟨δ,S1,r1.ext e1,p1,h'.mo _ _ δ S1 (tf.ext e1) z⟩
abbrev xq:=D->yn->SS->(yn->SS->Prop)->Prop
abbrev wU:=List D->yn->SS->(yn->SS->Prop)->Prop
def mm (t:xq):Prop:=∀ d δ S (Q Q':yn->SS->Prop),(∀ δ S,Q δ S->Q' δ S)->t d δ S Q->t d δ S Q'
def Zh (t:wU):Prop:=∀ d δ S (Q Q':yn->SS->Prop),(∀ δ S,Q δ S->Q' δ S)->t d δ S Q->t d δ S Q'
noncomputable def pY (K:PySem.W.Frag) (t:xq):TG:=λ v σ H Q=>∃ d δ S,zg K H d v/\xa K H δ σ/\zN K H S/\t d δ S (vd K H Q)
noncomputable def ej (K:PySem.W.Frag) (t:wU):tV:=λ v σ H Q=>∃ d δ S,zq K H d v/\xa K H δ σ/\zN K H S/\t d δ S (vd K H Q)
structure tY (X:Cx) (e:Expr) (t:xq):Prop where
 mo:mm t
 pg:PG X e (pY X.K t)
structure kF (X:Cx) (es:List Expr) (t:wU):Prop where
 mo:Zh t
 pg:tu X es (ej X.K t)
theorem PG.imp {e:Expr}{t t':TG}(h:PG X e t) (hi:∀ v σ H Q,t' v σ H Q->t v σ H Q):PG X e t':=λ pins s σ H v w Q I r q=>h pins s σ H v w Q I r (hi v σ H Q q)
theorem tu.imp {e:List Expr}{t t':tV}(h:tu X e t) (hi:∀ v σ H Q,t' v σ H Q->t v σ H Q):tu X e t':=λ pins s σ H v w Q I r q=>h pins s σ H v w Q I r (hi v σ H Q q)
def hName (i:Nat):xq:=λ d δ S Q=>Q (δ.set i (some d)) S
theorem W_ {e:Expr}{i:Nat}(h:PG X e (px i)):tY X e (hName i):=
 ⟨λ _ _ _ _ _ hq z=>hq _ _ z,PG.imp h λ v σ H Q ⟨d,δ,S,r1,r2,r3,z⟩=>z _ H (r2.set i r1) (.refl H) r3⟩
def hG:wU:=λ ds δ S Q=>ds=[]/\Q δ S
def hJ (t:xq) (u:wU):wU:=λ ds δ S Q=>match ds with
 | d::r=>t d δ S fun δ' S'=>u r δ' S' Q
 | []=>False
theorem qK:kF X [] hG:=by
 refine⟨λ _ _ _ _ _ hq z=>⟨z.1,hq _ _ z.2⟩,tu.imp Wq λ v σ H Q hu=>?_⟩;obtain⟨d,δ,S,r1,r2,r3,z1,z2⟩:=hu;subst z1;simp only[zq] at r1;exact⟨r1,z2 σ H r2 (.refl H) r3⟩
theorem v8 {e:Expr}{es:List Expr}{t:xq}{u:wU}(h:tY X e t) (h':kF X es u) (hs:(assignEach (e::es) X.env).map (·.2)=assign e X.env::(assignEach es X.env).map (·.2):=by rfl):kF X (e::es) (hJ t u):=by
 refine⟨λ ds δ S Q Q' hq z=>?_,tu.imp (Wr h.pg h'.pg hs) λ v σ H Q hu=>?_⟩
 .cases ds with
  | nil=>exact z
  | cons d r=>exact h.mo d δ S _ _ (fun δ' S' z=>h'.mo r δ' S' _ _ hq z) z
 .obtain⟨ds,δ,S,r1,r2,r3,z⟩:=hu;cases ds with
  | nil=>exact z.elim
  | cons d r=>
   simp only[zq] at r1;obtain⟨x,xs,rfl,q1,q2⟩:=r1;refine⟨x,xs,rfl,d,δ,S,q1,r2,r3,h.mo d δ S _ _ (fun δ' S' z σ' H' g1 g2 g3=>?_) z⟩;exact⟨r,δ',S',zq.ext g2 r q2,g1,g3,h'.mo r δ' S' _ _ (fun δ2 S2 z2=>vd.ext g2 z2) z⟩
def lW (n:Nat) (t:wU):xq:=λ d δ S Q=>match d with
 | .tup ds=>ds.length=n/\t ds δ S Q
 | _=>False
theorem WZ {e:Expr}{n:Nat}{t:wU}(h:PG X e (bD X.K n (ej X.K t))) (hm:Zh t):tY X e (lW n t):=by
 refine⟨λ d δ S Q Q' hq z=>?_,PG.imp h λ v σ H Q hu=>?_⟩
 .cases d with
  | tup ds=>exact⟨z.1,hm ds δ S _ _ hq z.2⟩
  | _=>exact z
 .obtain⟨d,δ,S,r1,r2,r3,z⟩:=hu;cases d with
  | tup ds=>
   simp only[zg] at r1;obtain⟨a,xs,rfl,q1,q2⟩:=r1;exact⟨a,xs,rfl,q1,by rw[<- q2.length];exact z.1,ds,δ,S,q2,r2,r3,z.2⟩
  | zk=>exact z.elim
  | bl _=>exact z.elim
  | int _=>exact z.elim
  | str _=>exact z.elim
  | yO _=>exact z.elim
  | ref _=>exact z.elim
def vo (te:zC) (g:xq):yP:=λ E δ S=>te δ S λ x S1=>g x δ S1 E.nx
theorem vo.mo {g:xq}(h:yo te) (h':mm g):tw (vo te g):=λ E E' δ S hE z=>h δ S _ _ (λ x S1 q=>h' x δ S1 _ _ (fun δ S q=>hE.nx _ _ q) q) z
theorem Yw {g:xq}(h:yo te) (h':mm g) {D:Ends}{σ:St}{H:Hp}(hu:ja K (vo te g) D σ H):oa (zO K te) (pY K g) D σ H:=by
 obtain⟨δ,S,r1,r2,z⟩:=hu;refine zO.go h r1 r2 z λ x S1 v H1 h1 q1 e1 p1=>?_;exact⟨x,δ,S1,q1,r1.ext e1,p1,h' x δ S1 _ _ (fun δ S q=>vd.ext e1 q) h1⟩
theorem WW {tg e:Expr}{g:xq}(he:PD X e te) (hg:tY X tg g) (hs:swapsWithSole [tg] e pos.line X.env=pure false:=by rfl) (hw:swappedStores [tg] e X.env=pure none:=by rfl)
  (h1:(assignEach [tg] X.env).map (·.2)=[assign tg X.env]:=by rfl):vq X (.Assign [tg] e pos) (vo te g):=
 ⟨vo.mo he.mo hg.mo,PS.imp (dA he.pe hg.pg hs hw h1) λ _ _ _ hu=>Yw he.mo hg.mo hu⟩
theorem WT {e0:Stmt}{i:Nat}(h:PS X e0 (oa (zO X.K te) (px i))) (hm:yo te):vq X e0 (vo te (hName i)):=by
 refine⟨vo.mo hm λ _ _ _ _ _ hq z=>hq _ _ z,PS.imp h λ D σ H hu=>?_⟩;obtain⟨δ,S,r1,r2,z⟩:=hu;refine zO.go hm r1 r2 z λ x S1 v H1 h1 q1 e1 p1=>?_;exact h1 _ H1 ((r1.ext e1).set i q1) e1 p1
end
end L3
namespace L3
open PySem PySem.Spec L2
open PyProof.Rows hiding St
structure mH where
 items:List D
 keep:SS->Prop
abbrev wR:=yn->SS->(mH->SS->Prop)->Prop
def kL (t:wR):Prop:=∀ δ S (Q Q':mH->SS->Prop),(∀ I S',Q I S'->Q' I S')->t δ S Q->t δ S Q'
def gX (K:PySem.W.Frag) (H1:Hp) (J:It) (I:mH):Prop:=∀ (i:Nat) (H:Hp) (S:SS),Ext H1 H->zN K H S->I.keep S->
 (∀ d,I.items[i]?=some d->J.go i H/\∀ x H',J.qx i H x H'->Ext H H'/\zN K H' S/\zg K H' d x)/\(I.items.length<=i->J.stop i H)
def Rp (K:PySem.W.Frag) (H:Hp) (R:It->Hp->Prop):mH->SS->Prop:=λ I S1=>∀ J H1,Ext H H1->zN K H1 S1->gX K H1 J I->R J H1
def wG (K:PySem.W.Frag) (t:wR):TI:=fun σ H R=>∃ δ S,xa K H δ σ/\zN K H S/\t δ S (Rp K H R)
structure rf (X:Cx) (tg iter:Expr) (t:wR):Prop where
 mo:kL t
 pi:PI X tg iter (wG X.K t)
theorem PI.imp {X:Cx}{tg e:Expr}{t t':TI}(h:PI X tg e t) (hi:∀ σ H Q,t' σ H Q->t σ H Q):PI X tg e t':=λ pins s σ H Q I q=>h pins s σ H Q I (hi σ H Q q)
section
variable {X:Cx}{K:PySem.W.Frag}{tg e:Expr}{te:zC}{pos:Pos}
theorem zq.at {H:Hp}{ds:List D}{xs:List V}{i:Nat}{d:D}{x:V}(r:zq K H ds xs) (h1:ds[i]?=some d) (h2:xs[i]?=some x):zg K H d x:=by
 obtain⟨y,e1,e2⟩:=r.get h1;rw[h2] at e1;cases e1;exact e2
noncomputable def vz (lo:Int) (n:Nat):List D:=(List.range n).map λ(k:Nat)=>D.int (lo+(k:Int))
theorem XE {lo:Int}{n i:Nat}{d:D}(h:(vz lo n)[i]?=some d):i<n/\d=.int (lo+(i:Int)):=by
 unfold vz at h;rw[List.getElem?_map] at h;cases q:(List.range n)[i]? with
 | none=>rw[q] at h;cases h
 | some j=>
  rw[q] at h;obtain⟨h1,h2⟩:=List.getElem?_eq_some_iff.mp q;rw[List.length_range] at h1;rw[List.getElem_range] at h2;subst h2;cases h;exact⟨h1,rfl⟩
theorem XD (lo:Int) (n:Nat):(vz lo n).length=n:=by unfold vz;rw[List.length_map,List.length_range]
theorem gX.range {H1:Hp}{lo:Int}{n:Nat}:gX K H1 (kM lo n) ⟨vz lo n,λ _=>True⟩:=λ i H S _ x2 _=>by
 refine⟨λ d hd=>?_,λ hl=>by rw[show (mH.mk (vz lo n) λ _=>True).items=vz lo n from rfl,XD] at hl;exact hl⟩;obtain⟨h1,rfl⟩:=XE hd;refine⟨h1,λ x H' q=>?_⟩;obtain⟨rfl,rfl⟩:=q;exact⟨.refl _,x2,by simp only[zg]⟩
def iX (t:y6):wR:=fun δ S R=>t δ S λ ds S1=>match ds with
 | [.int j]=>(-(2 ^ 62)<=j/\j<2 ^ 62)/\R ⟨vz 0 j.toNat,λ _=>True⟩ S1
 | _=>False
variable {tA:y6}
theorem WY (h:PI X tg e (bw (wH X.K tA))) (hm:tZ tA):rf X tg e (iX tA):=by
 refine⟨fun δ S Q Q' hq z=>hm δ S _ _ (λ ds S1 z=>?_) z,PI.imp h fun σ H R hu=>?_⟩
 .split at z
  .exact⟨z.1,hq _ _ z.2⟩
  .exact z.elim
 .obtain⟨δ,S,r1,r2,z⟩:=hu;refine wH.go hm r1 r2 z λ ds S1 xs H1 h1 q1 e1 p1=>?_;split at h1
  .obtain⟨x,rfl,q⟩:=q1.one;simp only[zg] at q;subst q;exact⟨_,rfl,h1.1.1,h1.1.2,h1.2 _ H1 e1 p1 .range⟩
  .exact h1.elim
def nP (ti:wR) (g:xq) (tb:yP):yP:=λ E δ S=>ti δ S λ I S1=>∃ W:Nat->yn->SS->Prop,W 0 δ S1/\(∀ i δ S,W i δ S->I.keep S)/\
 (∀ i d δ S,I.items[i]?=some d->W i δ S->g d δ S fun δ2 S2=>tb { E with nx:=W (i+1),ct:=W (i+1),bk:=E.nx } δ2 S2)/\∀ δ S,W I.items.length δ S->E.nx δ S
theorem nP.mo {ti:wR}{g:xq}{tb:yP}(hi:kL ti) (hg:mm g) (hb:tw tb):tw (nP ti g tb):=λ E E' δ S hE z=>hi δ S _ _ (λ I S1 ⟨W,w0,wk,ws,wd⟩=>by
 refine⟨W,w0,wk,λ i d δ S hd hw=>hg d δ S _ _ (fun δ2 S2 z=>hb { E with nx:=W (i+1),ct:=W (i+1),bk:=E.nx } { E' with nx:=W (i+1),ct:=W (i+1),bk:=E'.nx } δ2 S2 ⟨λ _ _ q=>q,hE.rt,hE.nx,λ _ _ q=>q⟩ z) (ws i d δ S hd hw),fun δ S q=>hE.nx _ _ (wd δ S q)⟩) z
theorem vj {iter:Expr}{body:List Stmt}{ti:wR}{g:xq}{tb:yP}(hp:PassesOwn (model X.prog X.w) X.A X.env X.xe) (hc:X.calm=true) (hi:rf X tg iter ti) (hg:tY X tg g) (hb:vQ X body tb)
  (hs:∀ x,foldedSetIterable iter X.env x=pure x:=by intro _;rfl):vq X (.For tg iter body [] pos) (nP ti g tb):=by
 refine⟨nP.mo hi.mo hg.mo hb.mo,PS.imp (Wb hp hc hi.pi hg.pg hb.ps hs) λ D σ H hu=>?_⟩;obtain⟨δ,S,r1,r2,z⟩:=hu;refine⟨δ,S,r1,r2,hi.mo δ S _ _ (λ I S1 hW J H1 e1 p1 rep=>?_) z⟩;obtain⟨W,w0,wk,ws,wd⟩:=hW;refine⟨λ i m σ H2=>m=I.items.length-i/\i<=I.items.length/\Ext H1 H2/\∃ δ S,xa X.K H2 δ σ/\zN X.K H2 S/\W i δ S,⟨_,rfl,Nat.zero_le _,.refl _,δ,S1,r1.ext e1,p1,w0⟩,?_⟩;rintro i m σ2 H2 ⟨rfl,hi',x2,δ2,S2,q1,q2,w2⟩;obtain⟨g1,g2⟩:=rep i H2 S2 x2 q2 (wk i δ2 S2 w2);by_cases hl:i<I.items.length
 .have hd:I.items[i]?=some I.items[i]:=by simp[hl]
  obtain⟨go,yl⟩:=g1 _ hd;refine .inr ⟨go,fun σ' H'=>Ext H1 H'/\∃ δ S,xa X.K H' δ σ'/\zN X.K H' S/\W (i+1) δ S,fun σ' H' q=>⟨_,by omega,rfl,hl,q⟩,λ x H3 hy=>?_⟩;obtain⟨x3,p3,d3⟩:=yl x H3 hy;refine⟨_,δ2,S2,d3,q1.ext x3,p3,hg.mo _ δ2 S2 _ _ (fun δ4 S4 z4 σ4 H4 a1 a2 a3=>?_) (ws i _ δ2 S2 hd w2)⟩;refine⟨δ4,S4,a1,a3,hb.mo _ _ δ4 S4 ⟨fun δ5 S5 w5 σ5 H5 b1 b2 b3=>⟨((x2.trans x3).trans a2).trans b2,δ5,S5,b1,b3,w5⟩,λ _ _ q=>wQ.ext (((e1.trans x2).trans x3).trans a2) q,λ _ _ q=>vd.ext (((e1.trans x2).trans x3).trans a2) q,fun δ5 S5 w5 σ5 H5 b1 b2 b3=>⟨((x2.trans x3).trans a2).trans b2,δ5,S5,b1,b3,w5⟩⟩ z4⟩
 .have e:i=I.items.length:=by omega
  subst e;exact .inl ⟨g2 (Nat.le_refl _),wd δ2 S2 w2 σ2 H2 q1 (e1.trans x2) q2⟩
abbrev tW:=List D->SS->DK->Prop
def gW (sp:tW):Prop:=∀ ds S (Q Q':DK),(∀ d S',Q d S'->Q' d S')->sp ds S Q->sp ds S Q'
noncomputable def uJ (K:PySem.W.Frag) (sp:tW):Sp:=λ vs H Q _=>∃ ds S,zq K H ds vs/\zN K H S/\sp ds S (wQ K H Q)
def g9 (sp:tW) (t:y6):zC:=fun δ S Q=>t δ S λ ds S1=>sp ds S1 Q
theorem Vt {sp:tW}{E:XK}{e:Expr}(h:PE X e (eD (uJ X.K sp) [] E (wH X.K tA))) (hs:gW sp) (hm:tZ tA):PD X e (g9 sp tA):=by
 refine⟨fun δ S Q Q' hq z=>hm δ S _ _ (λ ds S1 z=>hs ds S1 _ _ hq z) z,PE.imp h fun σ H Q hu=>?_⟩;obtain⟨δ,S,r1,r2,z⟩:=hu;refine wH.go hm r1 r2 z λ ds S1 xs H1 h1 q1 e1 p1=>?_;rw[List.append_nil];exact⟨ds,S1,q1,p1,hs ds S1 _ _ (λ d S' q=>wQ.ext e1 q) h1⟩
noncomputable def u3 (N:List Str) (ds:List D):yn:=ds.map some++List.replicate (N.length-ds.length) none
theorem xa.init {H:Hp}{N:List Str}{ds:List D}{vs:List V}(r:zq K H ds vs):xa K H (u3 N ds) (start N vs):=by
 have hl:=r.length;refine⟨by unfold u3 L2.start;simp[hl],λ i d h=>?_⟩;unfold u3 at h;have hi:i<ds.length:=by
  rcases Nat.lt_or_ge i ds.length with q | q
  .exact q
  .rw[List.getElem?_append_right (by simpa using q),List.getElem?_replicate] at h;split at h <;> cases h
 rw[List.getElem?_append_left (by simpa using hi),List.getElem?_map] at h;cases q:ds[i]? with
 | none=>rw[q] at h;cases h
 | some d'=>
  rw[q] at h;cases h;obtain⟨x,e1,e2⟩:=r.get q;refine⟨x,?_,e2⟩;unfold L2.start;rw[List.getElem?_append_left (by simpa using by omega),List.getElem?_map,e1];rfl
theorem bE {P:Program}{w:World}{K:PySem.W.Frag}{mg:Str->Option Value}{base:Heap}{x qual:Str}{st:Stmt}{f:Addr}{fd:FuncData}{N ps:List Str}{k:Nat}{sp:tW}(F:uz K x qual st f fd) (Sc:yp N ps (zJ st))
  (len:∀ ds S Q,sp ds S Q->ds.length=ps.length)
  (hbody:∀ (cdv:Value) (A:Around) (outer:List Env) (s:Shared) (H:Hp) (E:XK),y9 k (A.deeper (envOfC qual (zJ st) s.heap.objs.size f cdv))->
   ∃ t,vQ (uC wX P w K mg base N qual (zJ st) f cdv A outer s H E).tJ (ve st) t/\∀ ds S Q,sp ds S Q->t { nx:=λ _ S'=>Q .zk S',rt:=Q } (u3 N ds) S):vU P w K mg base wX (k+1) f fd ps (uJ K sp):=by
 refine F.ok Sc (λ vs H Q E h=>?_) λ cdv A outer s H vs Q E hr h=>?_
 .obtain⟨ds,S,r1,_,z⟩:=h;rw[<- r1.length];exact len _ _ _ z
 .obtain⟨ds,S,r1,r2,z⟩:=h;obtain⟨t,ht,hq⟩:=hbody cdv A outer s H E hr;refine⟨_,ht.ps,u3 N ds,S,.init r1,r2,ht.mo { nx:=λ _ S'=>wQ K H Q .zk S',rt:=wQ K H Q } _ _ _ ⟨fun δ S' q σ' H' _ b c=>q .zk H' (by simp only[zg]) b c,λ _ _ q=>q,λ _ _ q=>False.elim q,λ _ _ q=>False.elim q⟩ (hq ds S _ z)⟩
noncomputable def ua (pick:List (Option Nat)) (δ:yn):yn:=pick.map λ o=>o.bind λ i=>(δ[i]?).join
theorem xa.pick {H:Hp}{δ:yn}{σ:St}(r:xa K H δ σ) (pick:List (Option Nat)):xa K H (ua pick δ) (v_ pick σ):=by
 refine⟨by unfold ua v_;simp,λ i d h=>?_⟩;unfold ua at h;rw[List.getElem?_map] at h;cases q:pick[i]? with
 | none=>rw[q] at h;cases h
 | some o=>
  rw[q] at h;cases o with
  | none=>simp at h
  | some j=>
   simp only[Option.map_some,Option.bind_some,Option.some.injEq] at h;have hj:δ[j]?=some (some d):=by
    cases q2:δ[j]? with
    | none=>rw[q2] at h;cases h
    | some o2=>rw[q2] at h;simp only[Option.join_some] at h;rw[h]
   obtain⟨v,e1,e2⟩:=r.2 j d hj;refine⟨v,?_,e2⟩;unfold v_;rw[List.getElem?_map,q];simp[e1]
def qg (δ δ':yn):Prop:=δ.length=δ'.length/\∀ (i:Nat) d,δ[i]?=some (some d)->δ'[i]?=some (some d)
theorem qg.rep {H:Hp}{δ δ':yn}{σ:St}(h:qg δ δ') (r:xa K H δ' σ):xa K H δ σ:=⟨h.1.trans r.1,λ i d q=>r.2 i d (h.2 i d q)⟩
structure kG (X:Cx) (ifs:List Expr) (t:yJ):Prop where
 mo:wW t
 pf:PF X ifs (w9 X.K t)
theorem PF.imp {ifs:List Expr}{t t':TT}(h:PF X ifs t) (hi:∀ σ H Q,t' σ H Q->t σ H Q):PF X ifs t':=λ pins s σ H Q I q=>h pins s σ H Q I (hi σ H Q q)
def bX:yJ:=λ _ S Q=>Q true S
theorem rF:kG X [] bX:=⟨λ _ _ _ _ hq z=>hq _ _ z,PF.imp Ww λ _ H _ ⟨_,_,_,r2,z⟩=>z H (.refl H) r2⟩
theorem l5 {c:Expr}{t:yJ}(h:xN X c t):kG X [c] t:=⟨h.mo,Wv h.pt⟩
section
variable {N':List Str}{pick:List (Option Nat)}{scope:Scope}{elt iter:Expr}{ifs:List Expr}{ti:wR}{g:xq}{tc:yJ}
end
end
end L3
namespace L2
open PySem PySem.Spec PyProof.Rows
def Se (K:PySem.W.Frag) (tl:TE):TI:=fun σ H R=>tl σ H λ x H1=>∃ a,x=.ref a/\(((∃ xs,zQ K H1 a xs)/\R (Zk K a) H1)\/((∃ xs,yb K H1 a xs)/\R (Zj K a) H1))
theorem Wm {X:Cx}{tg l:Expr}{tl:TE}(hl:PE X l tl):PI X tg l (Se X.K tl):=by
 intro pins s σ H R I h;refine zK (hl pins s σ H _ I h) λ v s1 ⟨x,H1,I1,r1,a,hx,q1⟩=>?_;subst hx;cases r1;have new:∀ b∈[s1.heap.objs.size],vT X pins H1 b:=λ b hb=>by
  obtain rfl:b=s1.heap.objs.size:=List.mem_singleton.mp hb;exact I1.lZ (Nat.le_refl _) (I1.zE.fresh (Nat.le_refl _))
 rcases q1 with ⟨⟨xs,hq⟩,q⟩ | ⟨⟨xs,hq⟩,q⟩
 .obtain⟨its,_,pl,_⟩:=I1.list hq;exact wpAny_pyIter_list pl.isList ⟨_,_,_,_,H1,rfl,I1.kept (t':=s1.toks) λ b o eo=>zHp _ eo,Y4 a _,⟨_,Heap.get?_push_size _ rfl,rfl,rfl⟩,new,q⟩
 .obtain⟨its,_,pt,_⟩:=I1.tuple hq;exact wpAny_pyIter_tuple (show s1.heap.IsTuple a its.toArray from pt) ⟨_,_,_,_,H1,rfl,I1.kept (t':=s1.toks) λ b o eo=>zHp _ eo,Y2 a _,⟨_,Heap.get?_push_size _ rfl,rfl,rfl⟩,new,q⟩
theorem range_all (bs:List Bool):(List.range bs.length).all (λ i=>bs.getD i true)=bs.all id:=by
 rw[Bool.eq_iff_iff,List.all_eq_true,List.all_eq_true];constructor
 .intro h b hb;obtain⟨i,hi,rfl⟩:=List.mem_iff_getElem.mp hb;have:=h i (List.mem_range.mpr hi);simpa [hi] using this
 .intro h i hi;have hi':=List.mem_range.mp hi;have:=h bs[i] (List.getElem_mem hi');simpa [hi'] using this
theorem range_any (bs:List Bool):(List.range bs.length).any (λ i=>bs.getD i true)=bs.any id:=by
 rw[Bool.eq_iff_iff,List.any_eq_true,List.any_eq_true];constructor
 .rintro⟨i,hi,h⟩;have hi':=List.mem_range.mp hi;exact⟨bs[i],List.getElem_mem hi',by simpa [hi'] using h⟩
 .rintro⟨b,hb,h⟩;obtain⟨i,hi,rfl⟩:=List.mem_iff_getElem.mp hb;exact⟨i,List.mem_range.mpr hi,by simpa [hi] using h⟩
theorem aM {bs:List Bool}{its:List Value}(r:Vals (bs.map V.bl) its) {i:Nat}{v:Value}(h:its.toArray[i]?=some v):v=.bool (bs.getD i true):=by
 have hl:=r.length;rw[List.length_map] at hl;have h':its[i]?=some v:=by simpa using h
 have hi:i<bs.length:=by
  rw[hl];rcases Nat.lt_or_ge i its.length with q | q
  .exact q
  .rw[List.getElem?_eq_none q] at h';cases h'
 obtain⟨u,e1,e2⟩:=r.get (i:=i) (x:=.bl bs[i]) (by simp[hi]);rw[h'] at e1;cases e1;have:v=.bool bs[i]:=e2;rw[this];simp[hi]
section
variable {X:Cx}
theorem Qa (hc:X.calm=true):yK X (.builtin "all") (λ xs H Q=>∃ p,∃ bs:List Bool,xs=[.ref p]/\zQ X.K H p (bs.map V.bl)/\Q (.bl (bs.all id)) H):=by
 intro pins s σ H xs us Q I r h;obtain⟨p,bs,rfl,hq,q⟩:=h;obtain⟨u,rfl,ru⟩:=vals1 r;cases ru;obtain⟨its,rv,pl,hz⟩:=I.list hq;have hl:=rv.length;rw[List.length_map] at hl;have hlt:p<s.heap.objs.size:=by obtain⟨o,n,e,_⟩:=pl;exact Heap.lt_size e
 refine call_all_walk (wpAny_pyIter_list pl.isList ?_);refine⟨s.heap.objs.size,_,_,_,_,_,λ i=>bs.getD i true,rfl,Walks.list (A:=X.A.in1) (I.ok.hd hc) s.heap.objs.size p (Nat.ne_of_lt hlt) its.toArray,⟨⟨_,Heap.get?_push_size _ rfl,rfl,rfl⟩,pl.isList.push _⟩,λ i v s' Q' E' hv hq'=>?_,λ h' tk hk=>?_⟩
 .rw[aM rv hv];exact wpAny_truthy_bool hq'
 .have e:(List.range its.toArray.size).all (λ i=>bs.getD i true)=bs.all id:=by rw[List.size_toArray,<- hl,range_all]
  rw[e];exact⟨.bl _,H,I.kept (t':=tk) λ b o eo=>hk b o (by simpa using Nat.ne_of_lt (Heap.lt_size eo)) (zHp _ eo),rfl,q⟩
theorem R_ (hc:X.calm=true):yK X (.builtin "any") (λ xs H Q=>∃ p,∃ bs:List Bool,xs=[.ref p]/\zQ X.K H p (bs.map V.bl)/\Q (.bl (bs.any id)) H):=by
 intro pins s σ H xs us Q I r h;obtain⟨p,bs,rfl,hq,q⟩:=h;obtain⟨u,rfl,ru⟩:=vals1 r;cases ru;obtain⟨its,rv,pl,hz⟩:=I.list hq;have hl:=rv.length;rw[List.length_map] at hl;have hlt:p<s.heap.objs.size:=by obtain⟨o,n,e,_⟩:=pl;exact Heap.lt_size e
 refine call_any_walk (wpAny_pyIter_list pl.isList ?_);refine⟨s.heap.objs.size,_,_,_,_,_,λ i=>bs.getD i true,rfl,Walks.list (A:=X.A.in1) (I.ok.hd hc) s.heap.objs.size p (Nat.ne_of_lt hlt) its.toArray,⟨⟨_,Heap.get?_push_size _ rfl,rfl,rfl⟩,pl.isList.push _⟩,λ i v s' Q' E' hv hq'=>?_,λ h' tk hk=>?_⟩
 .rw[aM rv hv];exact wpAny_truthy_bool hq'
 .have e:(List.range its.toArray.size).any (λ i=>bs.getD i true)=bs.any id:=by rw[List.size_toArray,<- hl,range_any]
  rw[e];exact⟨.bl _,H,I.kept (t':=tk) λ b o eo=>hk b o (by simpa using Nat.ne_of_lt (Heap.lt_size eo)) (zHp _ eo),rfl,q⟩
end
end L2
namespace L3
open PySem PySem.Spec L2
open PyProof.Rows hiding St
structure Bt (mg:Str->Option Value):Prop where
 len:mg "len"=none
 range:mg "range"=none
 any:mg "any"=none
 all:mg "all"=none
 sorted:mg "sorted"=none
 isinstance:mg "isinstance"=none
 bool:mg "bool"=none
 int:mg "int"=none
 str:mg "str"=none
 list:mg "list"=none
 tuple:mg "tuple"=none
 max:mg "max"=none
 min:mg "min"=none
section
variable {X:Cx}{K:PySem.W.Frag}{a b c e:Expr}{es:List Expr}{ta tb tc te:zC}{tA:y6}{pos p:Pos}
theorem uD {N':List Str}{pick:List (Option Nat)}{scope esc:Scope}{N:List Str}(hE:X.env.scope=esc:=by rfl) (hN:X.N=N:=by rfl) (h1:scope.kind=.function:=by rfl) (h2:scope.names.all (λ y=>decide (y.2≠.cell))=true:=by decide +kernel)
  (h3:scope.names.all (λ y=>!decide (y.2=.local)||decide (scope.names.lookup y.1=some .local))=true:=by decide +kernel)
  (h4:scope.names.all (λ y=>!decide (y.2=.free)||(decide (esc.names.lookup y.1=some .cell)||decide (esc.names.lookup y.1=some .free)))=true:=by decide +kernel)
  (h5:pick.length=N'.length:=by rfl) (h6:qH N N' pick scope=true:=by decide +kernel):qv X N' pick scope:=by
 refine⟨h1,λ y hy=>?_,λ y hy hl=>?_,λ y hy hf=>?_,h5,by rw[hN];exact h6⟩
 .exact of_decide_eq_true (List.all_eq_true.mp h2 y hy)
 .have:=List.all_eq_true.mp h3 y hy;rw[decide_eq_true hl] at this;simpa using this
 .have:=List.all_eq_true.mp h4 y hy;rw[decide_eq_true hf] at this;rw[hE];simpa using this
theorem yF (i:Nat) {x:Str}(hN:X.N.Nodup) (hi:X.N[i]?=some x:=by rfl) (hx:Loc X.env.scope x:=by first | exact Or.inl rfl | exact Or.inr rfl) (hf:X.fn x=true\/X.env.scope.names.lookup x=some .local:=by first | exact .inl rfl | exact .inr rfl):tY X (.Name x pos) (hName i):=
 W_ (Wu hN hi hx hf)
theorem qL {k:Nat}{t:wU}{n:Nat}(h:kF X es t) (hc:X.calm=true:=by rfl) (hn:(assignEach es X.env).length=n:=by rfl) (hst:(assignEach es X.env).findIdx? (·.1)=none:=by rfl):tY X (.Tuple es k pos) (lW n t):=
 WZ (Ws hc h.pg hn hst) h.mo
theorem zR (i:Nat) {x:Str}{pos':Pos}(hN:X.N.Nodup) (he:PD X e te) (hi:X.N[i]?=some x:=by rfl) (hx:Loc X.env.scope x:=by first | exact Or.inl rfl | exact Or.inr rfl) (hs:swapsWith e (some (.Name x pos')) pos.line X.env=pure false:=by rfl)
  (hf:X.fn x=true\/X.env.scope.names.lookup x=some .local:=by first | exact .inl rfl | exact .inr rfl):vq X (.Assign [.Name x pos'] e pos) (vo te (hName i)):=
 WT (XZ hN hi hx he.pe hs hf) he.mo
def iW (te:zC):wR:=fun δ S R=>te δ S λ x S1=>match x with
 | .tup ds=>R ⟨ds,λ _=>True⟩ S1
 | .yO ds=>R ⟨ds,λ _=>True⟩ S1
 | .ref p=>match S1 p with
  | some (.lst ds)=>R ⟨ds,λ S=>S p=some (.lst ds)⟩ S1
  | _=>False
 | _=>False
theorem wA {tg:Expr}(h:PD X e te):rf X tg e (iW te):=by
 refine⟨fun δ S Q Q' hq z=>h.mo δ S _ _ (λ x S1 z=>?_) z,?_⟩
 .cases x with
  | ref p=>
   dsimp only at z ⊢;split at z
   .exact hq _ _ z
   .exact z.elim
  | yO ds=>exact hq _ _ z
  | tup ds=>exact hq _ _ z
  | _=>exact z
 .refine PI.imp (Wm h.pe) fun σ H R hu=>?_
  obtain⟨δ,S,r1,r2,z⟩:=hu;refine zO.go h.mo r1 r2 z λ x S1 v H1 h1 q1 e1 p1=>?_;cases x with
  | tup ds=>
   simp only[zg] at q1;obtain⟨a,xs,rfl,g1,g2⟩:=q1;refine⟨a,rfl,.inr ⟨⟨xs,g1⟩,h1 _ H1 e1 p1 λ i H2 S2 x1 x2 _=>⟨λ d hd=>?_,λ hl=>⟨xs,x1.mS g1,by rw[<- g2.length];exact hl⟩⟩⟩⟩;obtain⟨y,hy,_⟩:=g2.get hd;refine⟨⟨xs,y,x1.mS g1,hy⟩,λ x H' q=>?_⟩;obtain⟨rfl,q⟩:=q;exact⟨.refl _,x2,(zq.ext x1 ds g2).at hd (q xs (x1.mS g1))⟩
  | ref p=>
   dsimp only at h1;split at h1
   .rename_i ds e2;simp only[zg] at q1;subst q1;obtain⟨xs0,g1,_⟩:=p1 _ _ e2;refine⟨p,rfl,.inl ⟨⟨xs0,zQ.of g1⟩,h1 _ H1 e1 p1 λ i H2 S2 x1 x2 hk=>?_⟩⟩;obtain⟨xs,g3,g4⟩:=x2 _ _ hk;refine⟨λ d hd=>?_,λ hl=>⟨xs,zQ.of g3,by rw[<- g4.length];exact hl⟩⟩;obtain⟨y,hy,_⟩:=g4.get hd;refine⟨⟨xs,y,zQ.of g3,hy⟩,λ x H' q=>?_⟩;obtain⟨rfl,q⟩:=q;exact⟨.refl _,x2,g4.at hd (q xs (zQ.of g3))⟩
   .exact h1.elim
  | yO ds=>
   simp only[zg] at q1;obtain⟨a,xs,rfl,g1,g2⟩:=q1;refine⟨a,rfl,.inl ⟨⟨xs,g1.sq⟩,h1 _ H1 e1 p1 λ i H2 S2 x1 x2 _=>⟨λ d hd=>?_,λ hl=>⟨xs,(x1.mT g1).sq,by rw[<- g2.length];exact hl⟩⟩⟩⟩;obtain⟨y,hy,_⟩:=g2.get hd;refine⟨⟨xs,y,(x1.mT g1).sq,hy⟩,λ x H' q=>?_⟩;obtain⟨rfl,q⟩:=q;exact⟨.refl _,x2,(zq.ext x1 ds g2).at hd (q xs (x1.mT g1).sq)⟩
  | zk=>exact h1.elim
  | bl _=>exact h1.elim
  | int _=>exact h1.elim
  | str _=>exact h1.elim
end
end L3
namespace L4
open PySem PySem.W PyProof.Rows
noncomputable def yD {α:Type}(n:Nat) (lt:Nat->Nat->Bool):KasT α->(α->Prop)->Prop
 | .ret a,Q=>Q a
 | .ask i j k,Q=>i<n/\j<n/\yD n lt (k (lt i j)) Q
theorem yD.mono {α:Type}{n:Nat}{lt:Nat->Nat->Bool}{Q Q':α->Prop}(hq:∀ a,Q a->Q' a):∀ {t:KasT α},yD n lt t Q->yD n lt t Q'
 | .ret _,h=>hq _ h
 | .ask _ _ _,h=>⟨h.1,h.2.1,yD.mono hq h.2.2⟩
theorem yD.bind {α β:Type}{n:Nat}{lt:Nat->Nat->Bool}{f:α->KasT β}{Q:β->Prop}:∀ {t:KasT α},yD n lt t (λ a=>yD n lt (f a) Q)->yD n lt (t.bind f) Q
 | .ret _,h=>h
 | .ask _ _ _,h=>⟨h.1,h.2.1,yD.bind h.2.2⟩
section
variable {n:Nat}{lt:Nat->Nat->Bool}
def Le (lt:Nat->Nat->Bool) (a b:Nat):Prop:=lt b a=false
structure Ord (lt:Nat->Nat->Bool):Prop where
 tr:∀ a b c,Le lt a b->Le lt b c->Le lt a c
 as:∀ a b,lt a b=true->Le lt a b
theorem Ord.refl (o:Ord lt) (a:Nat):Le lt a a:=by
 cases h:lt a a with
 | false=>exact h
 | true=>exact o.as a a h
def xA (n:Nat) (p:Array Nat):Prop:=p.Perm (List.range n).toArray
theorem xA.size {p:Array Nat}(h:xA n p):p.size=n:=by rw[Array.Perm.size_eq h];simp
theorem xA.below {p:Array Nat}(h:xA n p) {i:Nat}(hi:i<n):p.getD i 0<n:=by
 have hs:=h.size;have hm:p.getD i 0∈p:=by
  rw[Array.getD_eq_getD_getElem?,Array.getElem?_eq_getElem (by omega)];exact Array.getElem_mem (by omega)
 have:p.getD i 0∈(List.range n).toArray:=(Array.Perm.mem_iff h).mp hm;simpa using this
theorem nv {p q:Array Nat}{i j:Nat}(h:p[i]?=q[j]?):p.getD i 0=q.getD j 0:=by rw[Array.getD_eq_getD_getElem?,Array.getD_eq_getD_getElem?,h]
def vp (lt:Nat->Nat->Bool) (p:Array Nat) (k:Nat):Prop:=∀ i j,i<=j->j<k->Le lt (p.getD i 0) (p.getD j 0)
def t4 (lt:Nat->Nat->Bool) (p:Array Nat) (k:Nat):Prop:=∀ i j,i<=j->j<k->Le lt (p.getD j 0) (p.getD i 0)
theorem vp.next (o:Ord lt) {p:Array Nat}{k:Nat}(h:vp lt p k) (hk:1<=k) (hl:Le lt (p.getD (k-1) 0) (p.getD k 0)):vp lt p (k+1):=λ i j hij hj=>by
 by_cases hjk:j<k
 .exact h i j hij hjk
 .have e:j=k:=by omega
  subst e;by_cases hi:i=j
  .subst hi;exact o.refl _
  .exact o.tr _ _ _ (h i (j-1) (by omega) (by omega)) hl
theorem t4.next (o:Ord lt) {p:Array Nat}{k:Nat}(h:t4 lt p k) (hk:1<=k) (hl:Le lt (p.getD k 0) (p.getD (k-1) 0)):t4 lt p (k+1):=λ i j hij hj=>by
 by_cases hjk:j<k
 .exact h i j hij hjk
 .have e:j=k:=by omega
  subst e;by_cases hi:i=j
  .subst hi;exact o.refl _
  .exact o.tr _ _ _ hl (h i (j-1) (by omega) (by omega))
theorem gL (o:Ord lt) {p:Array Nat}(hp:xA n p):∀ (f a:Nat),1<=a->a+f<=n->vp lt p a->
  yD n lt (kas_asc p f a) λ m=>a<=m/\m<=a+f/\vp lt p m/\(m=a+f\/lt (p.getD m 0) (p.getD (m-1) 0)=true)
 | 0,a,_,_,hs=>⟨Nat.le_refl _,Nat.le_refl _,hs,.inl rfl⟩
 | f+1,a,h1,h2,hs=>by
  refine⟨hp.below (by omega),hp.below (by omega),?_⟩;cases c:lt (p.getD a 0) (p.getD (a-1) 0) with
  | true=>exact⟨Nat.le_refl _,by omega,hs,.inr c⟩
  | false=>
   refine yD.mono ?_ (gL o hp f (a+1) (by omega) (by omega) (hs.next o h1 c));rintro m ⟨g1,g2,g3,g4⟩;exact⟨by omega,by omega,g3,g4.imp (λ e=>by omega) id⟩
theorem ox {p:Array Nat}(hp:xA n p) (i j:Nat):xA n (kas_rev p i j):=Array.Perm.trans (mirror_perm _ _ _ _) hp
theorem oy {p:Array Nat}(hp:xA n p) {i j:Nat}(hj:j<=n) (k:Nat):(kas_rev p i j).getD k 0=if i<=k/\k<j then p.getD (i+j-1-k) 0 else p.getD k 0:=by
 have e:=getElem?_mirror_all (xs:=p) (i:=i) (j:=j) (by rw[hp.size];exact hj) k;split
 .rename_i h;rw[if_pos h] at e;exact nv e
 .rename_i h;rw[if_neg h] at e;exact nv e
theorem rev_eq (o:Ord lt) {p:Array Nat}(hp:xA n p) {i j:Nat}(hj:j<=n) (he:∀ a b,i<=a->a<j->i<=b->b<j->Le lt (p.getD a 0) (p.getD b 0)) (k:Nat):
  Le lt ((kas_rev p i j).getD k 0) (p.getD k 0)/\Le lt (p.getD k 0) ((kas_rev p i j).getD k 0):=by
 rw[oy hp hj];split
 .rename_i h;exact⟨he _ _ (by omega) (by omega) h.1 h.2,he _ _ h.1 h.2 (by omega) (by omega)⟩
 .exact⟨o.refl _,o.refl _⟩
theorem t4.of_eq (o:Ord lt) {p q:Array Nat}{k:Nat}(h:t4 lt p k) (e:∀ k,Le lt (q.getD k 0) (p.getD k 0)/\Le lt (p.getD k 0) (q.getD k 0)):t4 lt q k:=λ i j hij hj=>
 o.tr _ _ _ (e j).1 (o.tr _ _ _ (h i j hij hj) (e i).2)
def fP (lt:Nat->Nat->Bool) (p:Array Nat) (m q:Nat):Prop:=∀ a b,m-(q+1)<=a->a<m->m-(q+1)<=b->b<m->Le lt (p.getD a 0) (p.getD b 0)
theorem ki (o:Ord lt):∀ (f:Nat) (p:Array Nat) (m q:Nat),xA n p->1<=m->m+f<=n->t4 lt p m->q+1<=m->fP lt p m q->
  yD n lt (kas_desc f p m q) λ r=>xA n r.1/\m<=r.2.1/\r.2.1<=m+f/\t4 lt r.1 r.2.1/\r.2.2+1<=r.2.1/\fP lt r.1 r.2.1 r.2.2
 | 0,p,m,q,hp,_,_,hd,hq,hb=>⟨hp,Nat.le_refl _,Nat.le_refl _,hd,hq,hb⟩
 | f+1,p,m,q,hp,h1,h2,hd,hq,hb=>by
  have one:∀ p':Array Nat,fP lt p' (m+1) 0:=λ p' a b a1 a2 b1 b2=>by
   have:a=b:=by omega
   subst this;exact o.refl _
  refine⟨hp.below (by omega),hp.below (by omega),?_⟩;cases c:lt (p.getD m 0) (p.getD (m-1) 0) with
  | true=>
   dsimp only;rw[if_pos rfl];have hl:=o.as _ _ c;by_cases h0:q>0
   .rw[if_pos h0];have e:=rev_eq o hp (i:=m-(q+1)) (j:=m) (by omega) hb;have hp':=ox hp (m-(q+1)) m;refine yD.mono ?_ (ki o f _ (m+1) 0 hp' (by omega) (by omega) ((hd.of_eq o e).next o h1 (o.tr _ _ _ (e m).1 (o.tr _ _ _ hl (e (m-1)).2))) (by omega) (one _));rintro r ⟨a1,a2,a3,a4⟩;exact⟨a1,by omega,by omega,a4⟩
   .rw[if_neg h0];refine yD.mono ?_ (ki o f _ (m+1) 0 hp (by omega) (by omega) (hd.next o h1 hl) (by omega) (one _));rintro r ⟨a1,a2,a3,a4⟩;exact⟨a1,by omega,by omega,a4⟩
  | false=>
   dsimp only;rw[if_neg Bool.false_ne_true];refine⟨hp.below (by omega),hp.below (by omega),?_⟩;cases d:lt (p.getD (m-1) 0) (p.getD m 0) with
   | true=>exact⟨hp,Nat.le_refl _,(by show m<=m+(f+1);omega),hd,hq,hb⟩
   | false=>
    dsimp only;rw[if_neg Bool.false_ne_true];refine yD.mono ?_ (ki o f _ (m+1) (q+1) hp (by omega) (by omega) (hd.next o h1 d) (by omega) λ a b a1 a2 b1 b2=>?_)
    .rintro r ⟨a1,a2,a3,a4⟩;exact⟨a1,by omega,by omega,a4⟩
    .by_cases ha:a=m
     .by_cases hb':b=m
      .subst ha;subst hb';exact o.refl _
      .subst ha;exact o.tr _ _ _ d (hb (a-1) b (by omega) (by omega) (by omega) (by omega))
     .by_cases hb':b=m
      .subst hb';exact o.tr _ _ _ (hb a (b-1) (by omega) (by omega) (by omega) (by omega)) c
      .exact hb a b (by omega) (by omega) (by omega) (by omega)
theorem eB (o:Ord lt) {p:Array Nat}{m:Nat}(hp:xA n p) (h1:1<=m) (h2:m<=n) (hd:t4 lt p m):yD n lt (kas_tail3 m n p) λ r=>xA n r.2/\r.1<=n/\vp lt r.2 r.1:=by
 refine yD.bind (yD.mono ?_ (gL o (ox hp 0 m) (n-m) m h1 (by omega) λ i j hij hj=>?_))
 .rintro k ⟨a1,a2,a3,_⟩;exact⟨ox hp 0 m,by omega,a3⟩
 .rw[oy hp h2,oy hp h2,if_pos ⟨Nat.zero_le _,by omega⟩,if_pos ⟨Nat.zero_le _,hj⟩];exact hd _ _ (by omega) (by omega)
theorem af (o:Ord lt) {p:Array Nat}{m:Nat}(hp:xA n p) (h1:1<=m) (h2:m<n) (hd:t4 lt p m) (hl:lt (p.getD m 0) (p.getD (m-1) 0)=true):yD n lt (kas_descPart m n p) λ r=>xA n r.2/\r.1<=n/\vp lt r.2 r.1:=by
 refine yD.bind (yD.mono ?_ (ki o (n-(m+1)) p (m+1) 0 hp (by omega) (by omega) (hd.next o h1 (o.as _ _ hl)) (by omega) λ a b a1 a2 b1 b2=>?_))
 .rintro⟨p',m',q'⟩ ⟨a1,a2,a3,a4,a5,a6⟩;dsimp only at a1 a2 a3 a4 a5 a6 ⊢;by_cases h0:q'>0
  .rw[if_pos h0];exact eB o (ox a1 _ _) (by omega) (by omega) (a4.of_eq o (rev_eq o a1 (i:=m'-(q' + 1)) (j:=m') (by omega) a6))
  .rw[if_neg h0];exact eB o a1 (by omega) (by omega) a4
 .have:a=b:=by omega
  subst this;exact o.refl _
theorem R4 (o:Ord lt) {p:Array Nat}(hp:xA n p) (h1:1<=n):yD n lt (kas_count n p) λ r=>xA n r.2/\r.1<=n/\vp lt r.2 r.1:=by
 refine yD.bind (yD.mono ?_ (gL o hp (n-1) 1 (Nat.le_refl _) (by omega) λ i j hij hj=>?_))
 .rintro m ⟨a1,a2,a3,a4⟩;by_cases hm:m=n
  .rw[if_pos (by simp[hm])];exact⟨hp,by omega,a3⟩
  .rw[if_neg (by simp[hm])];have hl:lt (p.getD m 0) (p.getD (m-1) 0)=true:=a4.resolve_left (by omega);by_cases h2:m>1
   .rw[if_pos h2];refine⟨hp.below (by omega),hp.below (by omega),?_⟩;cases c:lt (p.getD 0 0) (p.getD (m-1) 0) with
    | true=>exact⟨hp,by omega,a3⟩
    | false=>
     dsimp only;rw[if_neg Bool.false_ne_true];have all:∀ a b,0<=a->a<m->0<=b->b<m->Le lt (p.getD a 0) (p.getD b 0):=λ a b _ ha _ hb=>
      o.tr _ _ _ (a3 a (m-1) (by omega) (by omega)) (o.tr _ _ _ c (a3 0 b (by omega) hb))
     have e:=rev_eq o hp (i:=0) (j:=m) (by omega) all;refine af o (ox hp 0 m) (by omega) (by omega) (λ i j hij hj=>o.tr _ _ _ (e j).1 (o.tr _ _ _ (all _ _ (Nat.zero_le _) hj (Nat.zero_le _) (by omega)) (e i).2)) ?_;rw[oy hp (by omega),oy hp (by omega),if_neg (by omega),if_pos (by omega)];cases q:lt (p.getD m 0) (p.getD (0+m-1-(m-1)) 0) with
     | true=>rfl
     | false=>
      have:=o.tr _ _ _ (all (m-1) (0+m-1-(m-1)) (Nat.zero_le _) (by omega) (Nat.zero_le _) (by omega)) q;unfold Le at this;rw[this] at hl;cases hl
   .rw[if_neg h2];have e:m=1:=by omega
    subst e;refine af o hp (Nat.le_refl _) (by omega) (λ i j hij hj=>?_) hl;have:i=j:=by omega
    subst this;exact o.refl _
 .have:i=j:=by omega
  subst this;exact o.refl _
theorem ic {p:Array Nat}{k:Nat}(hp:xA n p) (hk:k<n) (hs:vp lt p k) (o:Ord lt):∀ (f l r:Nat),r-l<=f->l<=r->r<=k->(∀ i,i<l->Le lt (p.getD i 0) (p.getD k 0))->(∀ i,r<=i->i<k->lt (p.getD k 0) (p.getD i 0)=true)->
  yD n lt (kas_place p k f l r) λ m=>m<=k/\(∀ i,i<m->Le lt (p.getD i 0) (p.getD k 0))/\(∀ i,m<=i->i<k->lt (p.getD k 0) (p.getD i 0)=true)
 | 0,l,r,h0,h1,h2,ha,hb=>by
  have:l=r:=by omega
  subst this;exact⟨h2,ha,hb⟩
 | f+1,l,r,h0,h1,h2,ha,hb=>by
  unfold kas_place;by_cases hlr:l≥r
  .rw[if_pos hlr];have:l=r:=by omega
   subst this;exact⟨h2,ha,hb⟩
  .rw[if_neg hlr];refine⟨hp.below hk,hp.below (by omega),?_⟩;cases c:lt (p.getD k 0) (p.getD ((l+r)/2) 0) with
   | true=>
    dsimp only;rw[if_pos rfl];refine ic hp hk hs o f l ((l+r)/2) (by omega) (by omega) (by omega) ha λ i hi hik=>?_;cases q:lt (p.getD k 0) (p.getD i 0) with
    | true=>rfl
    | false=>
     have:=o.tr _ _ _ (hs ((l+r)/2) i hi hik) q;unfold Le at this;rw[this] at c;cases c
   | false=>
    dsimp only;rw[if_neg Bool.false_ne_true];refine ic hp hk hs o f ((l+r)/2+1) r (by omega) (by omega) h2 (λ i hi=>?_) hb;exact o.tr _ _ _ (hs i ((l+r)/2) (by omega) (by omega)) c
theorem aV (o:Ord lt):∀ (f:Nat) (p:Array Nat) (k:Nat),xA n p->k+f=n->vp lt p k->yD n lt (kas_bin f p k) λ r=>xA n r/\vp lt r n
 | 0,p,k,hp,h1,hs=>by
  have:k=n:=by omega
  subst this;exact⟨hp,hs⟩
 | f+1,p,k,hp,h1,hs=>by
  refine yD.bind (yD.mono ?_ (ic hp (by omega) hs o k 0 k (by omega) (Nat.zero_le _) (Nat.le_refl _) (λ i hi=>absurd hi (Nat.not_lt_zero _)) λ i hi hik=>absurd hik (by omega)));rintro l ⟨a1,a2,a3⟩;refine aV o f _ (k+1) (Array.Perm.trans (bubble_perm _ _ _) hp) (by omega) λ i j hij hj=>?_;have ev:∀ x,(bubble p k (k-l)).getD x 0=if x=l then p.getD k 0 else if l<x/\x<=k then p.getD (x-1) 0 else p.getD x 0:=λ x=>by
   have e:=getElem?_bubble (xs:=p) (src:=k) (by rw[hp.size];omega) (k-l) (by omega) x;rw[show k-(k-l)=l by omega] at e;split
   .rename_i h;rw[if_pos h] at e;exact nv e
   .rename_i h;rw[if_neg h] at e;split
    .rename_i h';rw[if_pos h'] at e;exact nv e
    .rename_i h';rw[if_neg h'] at e;exact nv e
  rw[ev i,ev j];by_cases hi:i=l
  .rw[if_pos hi];by_cases hj':j=l
   .rw[if_pos hj'];exact o.refl _
   .rw[if_neg hj',if_pos ⟨by omega,by omega⟩];exact o.as _ _ (a3 (j-1) (by omega) (by omega))
  .rw[if_neg hi];by_cases hj':j=l
   .rw[if_pos hj',if_neg (by omega)];exact a2 i (by omega)
   .rw[if_neg hj'];by_cases hi2:l<i/\i<=k
    .rw[if_pos hi2,if_pos ⟨by omega,by omega⟩];exact hs _ _ (by omega) (by omega)
    .rw[if_neg hi2];by_cases hj2:l<j/\j<=k
     .rw[if_pos hj2];exact hs _ _ (by omega) (by omega)
     .rw[if_neg hj2];exact hs _ _ hij (by omega)
theorem Xc (o:Ord lt) (h1:1<=n):yD n lt (kas_sort n) λ r=>xA n r/\vp lt r n:=by
 have hp:xA n (List.range n).toArray:=Array.Perm.refl _;refine yD.bind (yD.mono ?_ (R4 o hp h1));rintro⟨m,p⟩ ⟨a1,a2,a3⟩;dsimp only at a1 a2 a3 ⊢;by_cases hm:m<n
 .rw[if_pos hm];refine aV o _ p (max m 1) a1 (by omega) ?_;by_cases h0:m=0
  .subst h0;intro i j hij hj;have:i=j:=by omega
   subst this;exact o.refl _
  .rw[show max m 1=m by omega];exact a3
 .rw[if_neg hm];have:m=n:=by omega
  subst this;exact⟨a1,a3⟩
end
end L4
namespace L4
open PySem PySem.W PySem.Calls PyProof.Rows
section
variable {prog:Program}{w:World}{A:Around}{E:Value->Shared->Prop}{s:Shared}
def Core (prog:Program) (w:World) (A:Around) (E:Value->Shared->Prop) (vs:List Value) (Out:Array Value->Prop) (s6:Shared):Prop:=
 wpAny (model prog w) A (keyKind' vs.toArray) (fun κ s'=>s'=s6/\wpAny (model prog w) A ((sortRuns').run (SortSt.mk' κ (vs.toArray.zip vs.toArray) #[] 7 none))
  (λ r s''=>s''=s6/\failedOf r.2=none/\Out ((arrOf r.2).map (·.2))/\(arrOf r.2).size=vs.length) E s') E s6
theorem iP {a:Addr}{vs:List Value}{n:Nat}{P:PySem.Fin->Shared->Prop}{Out:Array Value->Prop}(ho:s.heap.get? a=some (seqObj "list" vs.toArray n)) (hz:vs.length<=sizeLine)
  (core:2<=vs.length->∀ s6:Shared,(∀ b o,b≠a->s.heap.get? b=some o->s6.heap.get? b=some o)->Core prog w A E vs Out s6) (short:vs.length<2->Out vs.toArray)
  (fin:∀ out:Array Value,Out out->out.size=vs.length->P (.done (.ret .none)) { s with heap:=sortedHeap s.heap a vs out }):
  wpAny (model prog w) A (Builtin.«list.sort» ⟨[.ref a],[]⟩) P E s:=by
 have ha:a<s.heap.objs.size:=Heap.lt_size ho;obtain⟨e1,g1⟩:∃ e1,(s.heap.update a (Obj.mapSeq λ _=>#[])).get? a=some (seqObj "list" #[] e1):=⟨_,get?_update_seq ho (λ _=>#[])⟩
 have hz':vs.toArray.size<=sizeLine:=by rw[List.size_toArray];exact hz
 have g6:(((s.heap.update a (Obj.mapSeq λ _=>#[])).push (seqObj "tuple" vs.toArray 0)).push (seqObj "list" #[] 0)).get? a=some (seqObj "list" #[] e1):=zHp _ (zHp _ g1);have keep:∀ b o,b≠a->s.heap.get? b=some o->(((s.heap.update a (Obj.mapSeq λ _=>#[])).push (seqObj "tuple" vs.toArray 0)).push (seqObj "list" #[] 0)).get? b=some o:=
  λ b o hb e=>zHp _ (zHp _ (by rw[Heap.get?_update_ne _ _ _ _ hb];exact e))
 rw[list_sort_plain];refine zWb (listItems_at ho rfl (zWb (listUpdate_at ho rfl (zWb (seqEpoch_at g1 rfl (zWb (wpAny_newTuple (zWb (wpAny_newList (wpAny_holding ?_))) (by simpa using hz))))) hz' (Nat.zero_le _))));by_cases h2:vs.toArray.size<2
 .rw[if_pos h2,if_pos h2];have e2:(arrOf (SortSt.mk' general' (vs.toArray.zip vs.toArray) #[] 7 none)).map (·.2)=vs.toArray:=by
   show (vs.toArray.zip vs.toArray).map (·.2)=vs.toArray;apply Array.ext (by simp);intro i h1 h2;simp
  refine zWb (wpAny_pure ?_);dsimp only;rw[StateT.run_pure];refine zWb (wpAny_pure ?_);dsimp only;refine zWb (seqEpoch_at g6 rfl (zWb (listUpdate_at g6 rfl ?_ (Nat.zero_le _) ?_)))
  .simp only[bne_self_eq_false,Bool.false_eq_true,if_false];have q:=fin _ (e2▸short (by simpa using h2)) (by rw[e2];simp);exact wpAny_pure q
  .show (((arrOf (SortSt.mk' general' (vs.toArray.zip vs.toArray) #[] 7 none)).map (·.2))).size<=sizeLine+1;rw[e2];omega
 .rw[if_neg h2,if_neg h2];have h2':2<=vs.length:=by simpa using h2
  refine zWb (wpAny_mono (core h2' _ keep) (fun κ s7 ⟨hs,h7⟩=>?_) λ _ _ z=>z);subst hs;refine zWb (wpAny_mono h7 (λ r s8 ⟨hs,hf,hout,hsz⟩=>?_) λ _ _ z=>z);subst hs;obtain⟨⟨⟩,st⟩:=r;refine zWb (seqEpoch_at g6 rfl (zWb (listUpdate_at g6 rfl ?_ (Nat.zero_le _) ?_)))
  .have hf':failedOf st=none:=hf;rw[hf'];simp only[bne_self_eq_false,Bool.false_eq_true,if_false];exact wpAny_pure (fin _ hout (by rw[Array.size_map];exact hsz))
  .show ((arrOf st).map (·.2)).size<=sizeLine+1;rw[Array.size_map];have:(arrOf st).size=vs.length:=hsz;omega
theorem Xb {l:Addr}{vs:List Value}{Q:Value->Shared->Prop}{Out:Array Value->Prop}(hl:s.heap.IsList l vs.toArray) (hz:vs.length<=sizeLine)
  (core:2<=vs.length->∀ s6:Shared,(∀ b o,s.heap.get? b=some o->s6.heap.get? b=some o)->Core prog w A.in1.in1 E vs Out s6) (short:vs.length<2->Out vs.toArray)
  (fin:∀ out:Array Value,Out out->out.size=vs.length->Q (.ref (s.heap.objs.size+1)) { s with heap:=sortedAll s.heap vs out }):
  wpAny (model prog w) A (call (.builtin "sorted") [.ref l]) Q E s:=by
 have hsz:((s.heap.push (seqObj "list" #[] 0)).update s.heap.objs.size (Obj.mapSeq (·++vs.toArray))).objs.size=s.heap.objs.size+1:=by
  rw[Heap.size_update,size_push']
 have hoL:(((s.heap.push (seqObj "list" #[] 0)).update s.heap.objs.size (Obj.mapSeq (·++vs.toArray))).push (seqObj "list" vs.toArray 0)).get? (s.heap.objs.size+1)=some (seqObj "list" vs.toArray 0):=hsz▸Heap.get?_push_size _ rfl;have keep:∀ b o,s.heap.get? b=some o->(((s.heap.push (seqObj "list" #[] 0)).update s.heap.objs.size (Obj.mapSeq (·++vs.toArray))).push (seqObj "list" vs.toArray 0)).get? b=some o:=λ b o q=>
  zHp _ (by rw[Heap.get?_update_ne _ _ _ _ (Nat.ne_of_lt (Heap.lt_size q))];exact zHp _ q)
 refine Calls.call_function_entry kind_sorted plain_sorted entry_sorted (args_sorted1 _) ?_;unfold Builtin.«sorted»;refine zWb (m:=checkCount "sorted" 1 1 _) (wpAny_pure (zWb (collect_list hl (zWb (wpAny_newList ?_ hz)) hz)));show wpAny _ _ _ _ _ { s with heap:=((s.heap.push (seqObj "list" #[] 0)).update s.heap.objs.size (Obj.mapSeq (·++vs.toArray))).push (seqObj "list" vs.toArray 0) };rw[hsz];refine zWb (wpAny_holding (wpAny_call_entry slot_list_sort ⟨_,hoL,rfl⟩ entry_list_sort (iP hoL hz (λ h2 s6 k=>core h2 s6 λ b o q=>k b o ?_ (keep b o q)) short λ out h1 h2=>⟨_,rfl,?_⟩) (args_list_sort _)))
 .exact Nat.ne_of_lt (Nat.lt_succ_of_lt (Heap.lt_size q))
 .exact wpAny_pure ⟨_,rfl,fin out h1 h2⟩
end
end L4
namespace L4
open PySem PySem.W PySem.Calls PyProof.Rows L2
theorem iT:∀ a b:List Int,HT.lexLt a b=true->HT.lexLt b a=false
 | [],[],h=>by cases h
 | [],_::_,_=>rfl
 | _::_,[],h=>by cases h
 | x::a,y::b,h=>by
  rw[HT.sP] at h ⊢;by_cases e:x=y
  .subst e;rw[if_pos rfl] at h ⊢;exact iT a b h
  .rw[if_neg e] at h;rw[if_neg (Ne.symm e)];have:=of_decide_eq_true h;exact decide_eq_false (by omega)
theorem cH:∀ a b:List Int,HT.lexLt a b=false->HT.lexLt b a=false->a=b
 | [],[],_,_=>rfl
 | [],_::_,h,_=>by cases h
 | _::_,[],_,h=>by cases h
 | x::a,y::b,h,h'=>by
  rw[HT.sP] at h h';by_cases e:x=y
  .subst e;rw[if_pos rfl] at h h';rw[cH a b h h']
  .rw[if_neg e] at h;rw[if_neg (Ne.symm e)] at h';have h1:=of_decide_eq_false h;have h2:=of_decide_eq_false h';omega
theorem iR:∀ a b c:List Int,HT.lexLt b a=false->HT.lexLt c b=false->HT.lexLt c a=false
 | [],[],[],_,_=>rfl
 | [],[],_::_,_,h=>h
 | [],_::_,[],_,h=>by cases h
 | [],_::_,_::_,_,_=>rfl
 | _::_,[],_,h,_=>by cases h
 | _::_,_::_,[],_,h=>by cases h
 | x::a,y::b,z::c,h,h'=>by
  rw[HT.sP] at h h' ⊢;by_cases e1:y=x
  .subst e1;rw[if_pos rfl] at h;by_cases e2:z=y
   .subst e2;rw[if_pos rfl] at h' ⊢;exact iR a b c h h'
   .rw[if_neg e2] at h' ⊢;exact h'
  .rw[if_neg e1] at h;have h1:=of_decide_eq_false h;by_cases e2:z=y
   .subst e2;rw[if_neg e1];exact h
   .rw[if_neg e2] at h';have h2:=of_decide_eq_false h';rw[if_neg (by omega)];exact decide_eq_false (by omega)
theorem ik {α:Type}{r:α->α->Prop}(an:∀ a b,r a b->r b a->a=b):∀ {l₁ l₂:List α},l₁.Perm l₂->l₁.Pairwise r->l₂.Pairwise r->l₁=l₂
 | [],l₂,h,_,_=>(List.nil_perm.mp h).symm
 | a::l₁,[],h,_,_=>absurd (List.perm_nil.mp h) (by simp)
 | a::l₁,b::l₂,h,h1,h2=>by
  have hab:a=b:=by
   have ha:a∈b::l₂:=h.mem_iff.mp zMc;have hb:b∈a::l₁:=h.mem_iff.mpr zMc;rcases List.mem_cons.mp ha with e | ha
   .exact e
   .rcases List.mem_cons.mp hb with e | hb
    .exact e.symm
    .exact an _ _ (List.rel_of_pairwise_cons h1 hb) (List.rel_of_pairwise_cons h2 ha)
  subst hab;rw[ik an (List.Perm.cons_inv h) (List.pairwise_cons.mp h1).2 (List.pairwise_cons.mp h2).2]
noncomputable def xQ (rows:List (List Int)):List (List Int):=rows.mergeSort λ a b=>!HT.lexLt b a
theorem uN (rows:List (List Int)):(xQ rows).Perm rows:=List.mergeSort_perm _ _
theorem jn (rows:List (List Int)):(xQ rows).Pairwise λ a b=>HT.lexLt b a=false:=by
 have:=List.pairwise_mergeSort (le:=λ a b:List Int=>!HT.lexLt b a) (λ a b c h1 h2=>by simp at h1 h2 ⊢;exact iR a b c h1 h2)
  (λ a b=>by
   cases h:HT.lexLt b a with
   | false=>simp
   | true=>simp[iT b a h]) rows
 exact this.imp λ h=>by simpa using h
theorem eJ {rows out:List (List Int)}(hp:out.Perm rows) (hs:out.Pairwise λ a b=>HT.lexLt b a=false):out=xQ rows:=
 ik (λ a b h1 h2=>cH a b h2 h1) (hp.trans (uN rows).symm) hs (jn rows)
noncomputable def oq (rows:List (List Int)) (i j:Nat):Bool:=HT.lexLt (rows.getD i []) (rows.getD j [])
theorem X4 (rows:List (List Int)):Ord (oq rows):=⟨λ _ _ _ h1 h2=>iR _ _ _ h1 h2,λ _ _ h=>iT _ _ h⟩
section
variable {prog:Program}{w:World}{A:Around}{E:Value->Shared->Prop}{s:Shared}{Q:Bool->Shared->Prop}
theorem cR {b:Bool}:∀ (ns ms:List Int) (us ws:List Value) (i:Nat),IntsAre us ns->IntsAre ws ms->Q (HT.lexLt ns ms) s->KatLex prog w A b (decide (ns.length<ms.length)) Q (us.zip ws) i s
 | [],[],_,_,_,.nil,.nil,h=>kat_nil (by simpa [HT.lexLt] using h)
 | [],_::_,_,_,_,.nil,.cons _ _ _,h=>kat_nil (by simpa [HT.lexLt] using h)
 | _::_,[],_,_,_,.cons _ _ _,.nil,h=>kat_nil (by simpa [HT.lexLt] using h)
 | n::ns,m::ms,_,_,i,.cons _ t hu,.cons _ u hw,h=>by
  rw[HT.sP] at h;refine kat_cons (SeqAt.EqAt.int_int n t m u prog w _ _ (kat_go (λ e=>kat_yes ?_) λ e=>kat_no ?_))
  .have e':n=m:=by simpa using e
   rw[if_pos e'] at h;rw[show decide ((n::ns).length<(m::ms).length)=decide (ns.length<ms.length) by simp];exact cR ns ms _ _ (i+1) hu hw h
  .have e':¬ n=m:=by simpa using e
   rw[if_neg e'] at h;cases b&&i == 0 with
   | true=>exact kat_lt_int h
   | false=>exact kat_one _ _ (lt_int h)
def tX (h:Heap):List Value->List (List Int)->Prop:=Paired λ v r=>r≠[]/\∃ b o its n,v=.ref b/\h.get? b=some o/\o.cls=.type "tuple"/\o.data=.seq its n/\IntsAre its.toList r
theorem tX.bI {h:Heap}:∀ {vs:List Value}{rows:List (List Int)},tX h vs rows->∃ fs,KatTups h vs fs/\fs.length=vs.length/\∀ v∈fs,∃ n t,v=Value.int n t
 | _,_,.nil=>⟨[],KatTups.nil,rfl,λ _ hv=>absurd hv (by simp)⟩
 | _,_,.cons ⟨hne,b,o,its,n,hv,ho,hc,hd,hi⟩ r=>by
  obtain⟨fs,h1,h2,h3⟩:=tX.bI r;subst hv;obtain⟨its⟩:=its;cases hi with
  | nil=>exact absurd rfl hne
  | cons k t _=>exact⟨.int k t::fs,KatTups.cons ho hc hd rfl h1,by simp[h2],λ v hv=>(List.mem_cons.mp hv).elim (λ e=>⟨k,t,e⟩) (h3 v)⟩
theorem Paired.at' {α β:Type}{F:α->β->Prop}:∀ {l₁:List α}{l₂:List β}{i:Nat},Paired F l₁ l₂->i<l₁.length->∀ (d:α) (e:β),F (l₁.getD i d) (l₂.getD i e)
 | _,_,_,.nil,h,_,_=>absurd h (by simp)
 | _,_,0,.cons r _,_,_,_=>r
 | _,_,i+1,.cons _ t,h,d,e=>by simpa using Paired.at' (i:=i) t (by simpa using h) d e
theorem tX.ask {vs:List Value}{rows:List (List Int)}{b:Bool}(r:tX s.heap vs rows) {i j:Nat}(hi:i<vs.length) (hj:j<vs.length) {C:Bool->Shared->Prop}(h:C (oq rows i j) s):kas_ask prog w A (tuples' b) vs i j C s:=by
 obtain⟨_,b1,o1,its1,n1,e1,g1,_,d1,q1⟩:=Paired.at' r hi Value.none [];obtain⟨_,b2,o2,its2,n2,e2,g2,_,d2,q2⟩:=Paired.at' r hj Value.none [];unfold kas_ask;rw[e1,e2];refine kat_lt g1 d1 g2 d2 ?_;have l1:=q1.length;have l2:=q2.length;rw[Array.length_toList] at l1 l2;rw[l1,l2];exact cR _ _ _ _ 0 q1 q2 h
theorem fU {α:Type}{n:Nat}{lt:Nat->Nat->Bool}{cmp:Nat->Nat->(Bool->Shared->Prop)->Shared->Prop}{Q:α->Shared->Prop}(hc:∀ i j C,i<n->j<n->C (lt i j) s->cmp i j C s):∀ {t:KasT α},yD n lt t (λ a=>Q a s)->t.kasWp cmp Q s
 | .ret _,h=>h
 | .ask i j _,h=>hc i j _ h.1 h.2.1 (fU hc h.2.2)
def mh (vs:List Value) (rows:List (List Int)) (out:Array Value):Prop:=
 ∃ idx:List Nat,idx.Perm (List.range vs.length)/\out.toList=idx.map (λ i=>vs.getD i Value.none)/\(idx.map λ i=>rows.getD i []).Pairwise λ a b=>HT.lexLt b a=false
theorem YZ {rows:List (List Int)}{p:Array Nat}{n:Nat}(hn:p.size=n) (h:vp (oq rows) p n):(p.toList.map λ i=>rows.getD i []).Pairwise λ a b=>HT.lexLt b a=false:=by
 rw[List.pairwise_map,List.pairwise_iff_getElem];intro i j hi hj hij;have:=h i j (Nat.le_of_lt hij) (by rw[<- hn];simpa using hj);simp only[Array.length_toList] at hi hj;unfold Le oq at this;simpa [Array.getD_eq_getD_getElem?,hi,hj] using this
theorem gA {vs:List Value}{rows:List (List Int)}(r:tX s.heap vs rows) (h2:2<=vs.length) (h64:vs.length<64):Core prog w A E vs (mh vs rows) s:=by
 obtain⟨fs,t,hl,hf⟩:=r.bI;unfold Core;refine kat_kind (T:=.type "int") t (by omega) (λ v hv=>?_) rfl ⟨rfl,?_⟩
 .obtain⟨n,t,rfl⟩:=hf v hv;exact Looks.of_pure rfl
 .refine kat_run (ks:=vs) (Q:=λ st s''=>s''=s/\failedOf st=none/\mh vs rows ((arrOf st).map (·.2))/\(arrOf st).size=vs.length) (G:=λ p s''=>s''=s/\xA vs.length p/\vp (oq rows) p vs.length) rfl h2 h64 (λ p st s' hs ha hfl hg=>?_) ?_
  .obtain⟨h1,h3,h4⟩:=hg;refine⟨h1,hfl,⟨p.toList,?_,?_,YZ hs h4⟩,by rw[ha,Array.size_map];exact hs⟩
   .have:=Array.Perm.toList h3;simpa using this
   .rw[kat_snds rfl ha]
  .exact fU (λ i j C hi hj hC=>r.ask hi hj hC) (yD.mono (λ p hp=>⟨rfl,hp⟩) (Xc (X4 rows) (by omega)))
end
section
variable {X:Cx}
theorem RI:yK X (.builtin "sorted") (λ xs H Q=>∃ p ys,∃ rows:List (List Int),xs=[.ref p]/\zQ X.K H p ys/\Paired (λ v r=>r≠[]/\∃ b,v=V.ref b/\yb X.K H b (r.map V.int)) ys rows/\rows.length<64/\
  ∀ (l:Addr) (idx:List Nat),H l=none->idx.Perm (List.range ys.length)->(idx.map λ i=>rows.getD i []).Pairwise (λ a b=>HT.lexLt b a=false)->Q (.ref l) (upd H l (.lst (idx.map λ i=>ys.getD i .zk)))):=by
 intro pins s σ H xs us Q I r h;obtain⟨p,ys,rows,rfl,hq,hr,h64,q⟩:=h;obtain⟨u,rfl,ru⟩:=vals1 r;cases ru;obtain⟨its,rv,pl,hz⟩:=I.list hq;have hl:=rv.length;have hlr:ys.length=rows.length:=Paired.length hr;have rows_at:∀ h6:Heap,(∀ b o,s.heap.get? b=some o->h6.get? b=some o)->tX h6 its rows:=λ h6 k=>by
  clear q hz hl hlr h64 hq pl r
  induction hr generalizing its with
  | nil=>cases rv;exact .nil
  | cons g t ih=>
   cases rv with
   | cons r1 r2=>
    refine .cons ?_ (ih _ r2);obtain⟨hne,b,rfl,hb⟩:=g;cases r1;obtain⟨its2,rv2,⟨o,e,hc,n,hd⟩,_⟩:=I.tuple hb;exact⟨hne,b,o,_,n,rfl,k _ _ e,hc,hd,by simpa using intsAre_of rv2⟩
 refine Xb (Out:=mh its rows) pl.isList (by rw[<- hl];exact hz) (λ h2 s6 k=>gA (rows_at _ k) h2 (by omega)) (λ h1=>?_) λ out ho hs=>?_
 .refine⟨List.range its.length,.refl _,?_,?_⟩
  .refine List.ext_getElem (by simp) λ i h1 h2=>?_;simp at h1;simp[h1]
  .rw[List.pairwise_map,List.pairwise_iff_getElem];intro i j hi hj hij;simp at hi hj;omega
 .obtain⟨idx,g1,g2,g3⟩:=ho;obtain⟨e,ho⟩:=sortedAll_at s.heap its out;have hfr:H (s.heap.objs.size+1)=none:=I.zE.fresh (Nat.le_succ _);have g1':idx.Perm (List.range ys.length):=by rw[hl];exact g1
  refine⟨.ref (s.heap.objs.size+1),_,I.laid (t':=s.toks) (o:=.lst (idx.map λ i=>ys.getD i .zk)) (λ b o q=>sortedAll_old q) (Nat.le_succ _) ?_,rfl,q _ idx hfr g1' g3⟩;refine⟨by rw[List.length_map,g1'.length_eq,List.length_range];exact hz,out.toList,e,?_,by simpa using ho⟩;rw[g2];have hlt:∀ i∈idx,i<ys.length:=λ i hi=>by simpa using g1'.mem_iff.mp hi
  clear g1 g1' g2 g3 q
  induction idx with
  | nil=>exact .nil
  | cons i idx ih=>
   refine .cons ?_ (ih λ j hj=>hlt j (zMo _ hj));have hi:=hlt i zMc;obtain⟨u,e1,e2⟩:=rv.get (i:=i) (x:=ys[i]) (by simp[hi]);have e3:its.getD i Value.none=u:=by simp[e1]
   have e4:ys.getD i .zk=ys[i]:=by simp[hi]
   show RelV (ys.getD i .zk) (its.getD i Value.none);rw[e3,e4];exact e2
end
end L4
namespace L2
open PySem PySem.Spec PyProof.Rows
noncomputable def ue (ty T:String):Bool:=ty == T||(ty == "bool"&&T == "int")
noncomputable def mN (ty T:String):Bool:=PySem.W.kitMeta T&&decide ((fastBuiltinMro ty).map (λ l=>l.contains (Value.type T))=some (ue ty T))
theorem Y0:(["NoneType","bool","int","str","tuple","list","dict"].all λ ty=>["int","bool","tuple","list","str"].all λ T=>mN ty T)=true:=by decide +kernel
theorem Tx {K:PySem.W.Frag}{ty T:String}(h:mN ty T=true):PySem.W.kitOne K (.type ty) (.type T)=some (ue ty T):=by
 unfold mN at h;rw[Bool.and_eq_true] at h;unfold PySem.W.kitOne;split
 .rename_i e;have e':ty=T:=by have:=eq_of_beq e;injection this
  subst e';simp[ue]
 .show (if PySem.W.kitMeta T=true then PySem.W.subIn K (.type ty) (.type T) else none)=_;rw[if_pos h.1];exact of_decide_eq_true h.2
noncomputable def Zb (K:PySem.W.Frag) (H:Hp):V->String->Prop
 | .zk,t=>t="NoneType"
 | .bl _,t=>t="bool"
 | .int _,t=>t="int"
 | .str _,t=>t="str"
 | .ref a,t=>(t="tuple"/\∃ xs,yb K H a xs)\/(t="list"/\∃ xs,zQ K H a xs)\/(t="dict"/\∃ kvs,H a=some (.dK kvs))
 | _,_=>False
theorem RZ {X:Cx}:yK X (.builtin "isinstance") (λ xs H Q=>∃ x T ty,xs=[x,.ty T]/\Zb X.K H x ty/\mN ty T=true/\Q (.bl (ue ty T)) H):=by
 intro pins s σ H xs us Q I r h;obtain⟨x,T,ty,rfl,hx,hT,q⟩:=h;obtain⟨u,c,rfl,ru,rc⟩:=vals2 r;cases (show c=Value.type T from rc);have e:PySem.W.kitOne X.K (.type ty) (.type T)=some (ue ty T):=Tx hT;have fin:∀ tk,EP X pins σ Q (.bool (ue ty T)) { s with toks:=tk }:=λ tk=>⟨.bl _,H,I.tok tk,rfl,q⟩;cases x with
 | zk=>cases (show u=Value.none from ru);cases (show ty=_ from hx);exact PySem.W.kia_one PySem.W.kitx_none I.vB True.intro e (λ z=>nomatch z) fin
 | bl y=>cases (show u=Value.bool y from ru);cases (show ty=_ from hx);exact PySem.W.kia_one PySem.W.kitx_bool I.vB True.intro e (λ z=>nomatch z) fin
 | int i=>obtain⟨t,rfl⟩:=(show ∃ t,u=Value.int i t from ru);cases (show ty=_ from hx);exact PySem.W.kia_one PySem.W.kitx_int I.vB True.intro e (λ z=>nomatch z) fin
 | str y=>obtain⟨t,rfl⟩:=(show ∃ t,u=Value.str y t from ru);cases (show ty=_ from hx);exact PySem.W.kia_one PySem.W.kitx_str I.vB True.intro e (λ z=>nomatch z) fin
 | ref a=>
  cases (show u=Value.ref a from ru);rcases hx with ⟨rfl,ys,hq⟩ | ⟨rfl,ys,hq⟩ | ⟨rfl,kvs,hq⟩
  .obtain⟨its,_,⟨o,h1,h2,_⟩,_⟩:=I.tuple hq;exact PySem.W.kia_one PySem.W.kitx_tuple I.vB ⟨o,h1,h2⟩ e (λ z=>nomatch z) fin
  .obtain⟨its,_,⟨o,n,h1,h2,_⟩,_⟩:=I.list hq;exact PySem.W.kia_one PySem.W.kitx_list I.vB ⟨o,h1,h2⟩ e (λ z=>nomatch z) fin
  .obtain⟨_,_,vs,_,p⟩:=(show xm X.prog X.w H s.heap a (.dK kvs) from I.zE a _ hq)
   obtain⟨o,es,ep,h1,h2,_⟩:=p;exact PySem.W.kia_one PySem.W.kitx_dict I.vB ⟨o,h1,h2.1⟩ e (λ z=>nomatch z) fin
 | pC _=>exact hx.elim
 | l_ _=>exact hx.elim
 | ty _=>exact hx.elim
end L2
namespace L3
open PySem PySem.Spec L2
open PyProof.Rows hiding St
section
variable {X:Cx}{K:PySem.W.Frag}{a b c e:Expr}{es:List Expr}{ta tb tc te:zC}{tA:y6}{pos p q:Pos}
theorem uR (hm:X.mg "len"=none) (ha:xO X (e::es) tA) (hg:Gl X "len":=by rfl) (he:starEach (e::es) X.env=(false,eval e X.env)::starEach es X.env:=by rfl) (hpl:(backTo pos (starEach es X.env)).any (·.1)=false:=by rfl):PD X (.Call (.Name "len" p) (e::es) [] pos) (xK uj tA):=
 uQ (tB (RW.or RV) hg hm PySem.boot_len ha.pa (by decide) (by decide) he hpl) uj.mo uj.fits ha.mo
theorem l7 (hm:X.mg "list"=none) (ha:xO X (e::es) tA) (hg:Gl X "list":=by rfl) (he:starEach (e::es) X.env=(false,eval e X.env)::starEach es X.env:=by rfl) (hpl:(backTo pos (starEach es X.env)).any (·.1)=false:=by rfl):PD X (.Call (.Name "list" p) (e::es) [] pos) (xK ui tA):=
 uQ (qI RT hg hm PyProof.Rows.boot_list ha.pa (by decide) (by decide) he hpl) ui.mo ui.fits ha.mo
theorem oB (hm:X.mg "tuple"=none) (ha:xO X (e::es) tA) (hg:Gl X "tuple":=by rfl) (he:starEach (e::es) X.env=(false,eval e X.env)::starEach es X.env:=by rfl) (hpl:(backTo pos (starEach es X.env)).any (·.1)=false:=by rfl):PD X (.Call (.Name "tuple" p) (e::es) [] pos) (xK uh tA):=
 uQ (qI RE hg hm PyProof.Rows.boot_tuple ha.pa (by decide) (by decide) he hpl) uh.mo uh.fits ha.mo
abbrev bK:xM:=vJ λ i j=>.int (if j>i then j else i)
abbrev bJ:xM:=vJ λ i j=>.int (if j<i then j else i)
theorem qO (hm:X.mg "max"=none) (ha:xO X (e::es) tA) (hc:X.calm=true:=by rfl) (hg:Gl X "max":=by rfl) (he:starEach (e::es) X.env=(false,eval e X.env)::starEach es X.env:=by rfl) (hpl:(backTo pos (starEach es X.env)).any (·.1)=false:=by rfl):PD X (.Call (.Name "max" p) (e::es) [] pos) (xK bK tA):=
 uQ (tB (RS hc) hg hm boot_max ha.pa (by decide) (by decide) he hpl) vJ.mo (vJ.fits λ _ _ _=>by simp only[zg]) ha.mo
theorem ir (hm:X.mg "min"=none) (ha:xO X (e::es) tA) (hc:X.calm=true:=by rfl) (hg:Gl X "min":=by rfl) (he:starEach (e::es) X.env=(false,eval e X.env)::starEach es X.env:=by rfl) (hpl:(backTo pos (starEach es X.env)).any (·.1)=false:=by rfl):PD X (.Call (.Name "min" p) (e::es) [] pos) (xK bJ tA):=
 uQ (tB (RQ hc) hg hm boot_min ha.pa (by decide) (by decide) he hpl) vJ.mo (vJ.fits λ _ _ _=>by simp only[zg]) ha.mo
noncomputable def wc (r:List Int):D:=.tup (r.map D.int)
theorem oo {H:Hp}:∀ {rows:List (List Int)}{ys:List V},zq K H (rows.map wc) ys->(∀ r∈rows,r≠[])->Paired (λ v r=>r≠[]/\∃ b,v=V.ref b/\yb K H b (r.map V.int)) ys rows
 | [],ys,h,_=>by simp only[List.map_nil,zq] at h;subst h;exact .nil
 | r::rows,ys,h,hn=>by
  rw[List.map_cons] at h;simp only[zq,wc,zg] at h;obtain⟨x,ys',rfl,⟨a,xs,rfl,g1,g2⟩,h3⟩:=h;rw[g2.ints] at g1;exact .cons ⟨hn r zMc,a,rfl,g1⟩ (oo h3 λ r' hr=>hn r' (zMo _ hr))
theorem cB {α:Type}{rows:List α}{d:α}{idx:List Nat}(h:idx.Perm (List.range rows.length)):(idx.map λ i=>rows.getD i d).Perm rows:=by
 refine (h.map _).trans ?_;have:(List.range rows.length).map (λ i=>rows.getD i d)=rows:=by
  refine List.ext_getElem (by simp) λ i h1 h2=>?_;simp[h2]
 rw[this]
theorem zq.perm {H:Hp}{rows:List (List Int)}{ys:List V}(h:zq K H (rows.map wc) ys):∀ {idx:List Nat},(∀ i∈idx,i<rows.length)->zq K H ((idx.map λ i=>rows.getD i []).map wc) (idx.map λ i=>ys.getD i .zk)
 | [],_=>.nil
 | i::idx,hi=>by
  have h1:=hi i zMc;obtain⟨x,e1,e2⟩:=h.get (i:=i) (d:=wc rows[i]) (by simp[h1]);refine .cons ?_ (zq.perm h λ j hj=>hi j (zMo _ hj));have e3:ys.getD i .zk=x:=by simp[e1]
  have e4:rows.getD i []=rows[i]:=by simp[h1]
  show zg K H (wc (rows.getD i [])) (ys.getD i .zk);rw[e3,e4];exact e2
theorem oA {tg:Expr}(hm:X.mg "range"=none) (ha:xO X [a] tA) (hg:Gl X "range":=by rfl) (hs:starEach [a] X.env=[(false,eval a X.env)]:=by rfl):rf X tg (.Call (.Name "range" p) [a] [] pos) (iX tA):=WY (Wn hg hm ha.pa hs) ha.mo
noncomputable def sy (d:D) (S:SS):Option String:=match d with
 | .zk=>some "NoneType"
 | .bl _=>some "bool"
 | .int _=>some "int"
 | .str _=>some "str"
 | .tup _=>some "tuple"
 | .yO _=>some "list"
 | .ref p=>match S p with
  | some (.lst _)=>some "list"
  | some (.yg _)=>some "dict"
  | none=>none
def p9 (T:String) (te:zC):zC:=fun δ S Q=>te δ S λ x S1=>match sy x S1 with
 | some ty=>Q (.bl (ue ty T)) S1
 | none=>False
theorem sy.ok {H:Hp}{d:D}{v:V}{S:SS}{ty:String}(r:zg K H d v) (p:zN K H S) (h:sy d S=some ty):Zb K H v ty/\ty∈["NoneType","bool","int","str","tuple","list","dict"]:=by
 cases d with
 | zk=>simp only[zg] at r;subst r;cases h;exact⟨rfl,by simp⟩
 | bl _=>simp only[zg] at r;subst r;cases h;exact⟨rfl,by simp⟩
 | int _=>simp only[zg] at r;subst r;cases h;exact⟨rfl,by simp⟩
 | str _=>simp only[zg] at r;subst r;cases h;exact⟨rfl,by simp⟩
 | tup ds=>
  simp only[zg] at r;obtain⟨a,xs,rfl,g1,_⟩:=r;cases h;exact⟨.inl ⟨rfl,xs,g1⟩,by simp⟩
 | yO ds=>
  simp only[zg] at r;obtain⟨a,xs,rfl,g1,_⟩:=r;cases h;exact⟨.inr (.inl ⟨rfl,xs,g1.sq⟩),by simp⟩
 | ref a=>
  simp only[zg] at r;subst r;unfold sy at h;dsimp only at h;split at h
  .rename_i e;cases h;obtain⟨xs,g1,_⟩:=p _ _ e;exact⟨.inr (.inl ⟨rfl,xs,zQ.of g1⟩),by simp⟩
  .rename_i e;cases h;obtain⟨xs,g1,_⟩:=p _ _ e;exact⟨.inr (.inr ⟨rfl,xs,g1⟩),by simp⟩
  .cases h
theorem l8 {T:String}{x:Str}(hT:T∈["int","bool","tuple","list","str"]) (hm:X.mg "isinstance"=none) (hm2:X.mg x=none) (hv:bootBuiltins x=some (.type T)) (hg2:Gl X x) (hn:x≠"__name__") (hd:(x == ("__debug__":Str))=false) (he:PD X e te) (hg:Gl X "isinstance":=by rfl)
  (h1:starEach (e::[.Name x q]) X.env=(false,eval e X.env)::starEach [.Name x q] X.env:=by rfl) (h2:(backTo pos (starEach [.Name x q] X.env)).any (·.1)=false:=by rfl) (h3:starEach [.Name x q] X.env=(false,eval (.Name x q) X.env)::starEach [] X.env:=by rfl):
  PD X (.Call (.Name "isinstance" p) [e,.Name x q] [] pos) (p9 T te):=by
 refine⟨fun δ S Q Q' hq z=>he.mo δ S _ _ (λ y S1 z=>?_) z,PE.imp (tB RZ hg hm boot_isinstance (rH he.pe (rH (WM (v:=.ty T) hg2 hm2 hv rfl hn hd) qP h3) h1) (by decide) (by decide) h1 h2) fun σ H Q hu=>?_⟩
 .split at z
  .exact hq _ _ z
  .exact z
 .obtain⟨δ,S,r1,r2,z⟩:=hu;refine zO.go he.mo r1 r2 z λ y S1 v H1 z1 q1 e1 p1=>?_;split at z1
  .rename_i ty ht;obtain⟨g1,g2⟩:=sy.ok q1 p1 ht;refine⟨v,T,ty,rfl,g1,?_,z1 _ H1 (by simp only[zg]) e1 p1⟩;exact List.all_eq_true.mp (List.all_eq_true.mp Y0 ty g2) T hT
  .exact z1.elim
theorem dU (T:Bt X.mg) (he:PD X e te) (hg:Gl X "isinstance":=by rfl) (hg2:Gl X "bool":=by rfl) (h1:starEach (e::[.Name "bool" q]) X.env=(false,eval e X.env)::starEach [.Name "bool" q] X.env:=by rfl) (h2:(backTo pos (starEach [.Name "bool" q] X.env)).any (·.1)=false:=by rfl) (h3:starEach [.Name "bool" q] X.env=(false,eval (.Name "bool" q) X.env)::starEach [] X.env:=by rfl):
  PD X (.Call (.Name "isinstance" p) [e,.Name "bool" q] [] pos) (p9 "bool" te):=l8 (by simp) T.isinstance T.bool PyProof.Rows.boot_bool hg2 (by decide) (by decide) he hg h1 h2 h3
theorem Vi (T:Bt X.mg) (he:PD X e te) (hg:Gl X "isinstance":=by rfl) (hg2:Gl X "int":=by rfl) (h1:starEach (e::[.Name "int" q]) X.env=(false,eval e X.env)::starEach [.Name "int" q] X.env:=by rfl) (h2:(backTo pos (starEach [.Name "int" q] X.env)).any (·.1)=false:=by rfl) (h3:starEach [.Name "int" q] X.env=(false,eval (.Name "int" q) X.env)::starEach [] X.env:=by rfl):
  PD X (.Call (.Name "isinstance" p) [e,.Name "int" q] [] pos) (p9 "int" te):=l8 (by simp) T.isinstance T.int PyProof.Rows.boot_int hg2 (by decide) (by decide) he hg h1 h2 h3
theorem Vg (T:Bt X.mg) (he:PD X e te) (hg:Gl X "isinstance":=by rfl) (hg2:Gl X "tuple":=by rfl) (h1:starEach (e::[.Name "tuple" q]) X.env=(false,eval e X.env)::starEach [.Name "tuple" q] X.env:=by rfl) (h2:(backTo pos (starEach [.Name "tuple" q] X.env)).any (·.1)=false:=by rfl) (h3:starEach [.Name "tuple" q] X.env=(false,eval (.Name "tuple" q) X.env)::starEach [] X.env:=by rfl):
  PD X (.Call (.Name "isinstance" p) [e,.Name "tuple" q] [] pos) (p9 "tuple" te):=l8 (by simp) T.isinstance T.tuple PyProof.Rows.boot_tuple hg2 (by decide) (by decide) he hg h1 h2 h3
theorem sL {o:Expr}{to:zC}{apos cpos:Pos}(ho:PD X o to) (he:PD X e te)
  (hbase:attributeBase o "append" X.env (eval o X.env)=eval o X.env:=by rfl)
  (hfew:((backTo cpos (starEach [e] X.env)).all (λ x=>!x.1)&&(backToKw cpos (keywordEach [] X.env)).all (λ x=>x.1.isSome)
   && decide ([e].length+([]:List Keyword).length+(if ([]:List Keyword).isEmpty then 0 else 1)<30))=true:=by rfl)
  (hline:(apos.endLine == cpos.line)=true:=by rfl) (hs:starEach [e] X.env=(false,eval e X.env)::starEach [] X.env:=by rfl) (hplain:(backTo cpos (starEach [] X.env)).any (·.1)=false:=by rfl):
  PD X (.Call (.Attribute o "append" apos) [e] [] cpos) (s_ to te):=
 Vu (o:=o) (e:=e) (dI PySem.F.plainAttrs_list PySem.F.slot_list_append PySem.F.type_list_append cA ho.pe (rH he.pe qP hs) hbase hfew hline hs hplain) ho.mo he.mo
structure FD (P:Program) (w:World) (K:PySem.W.Frag) (mg:Str->Option Value) (base:Heap) (x:Str) (k:Nat) (ps:List Str) (sp:tW):Prop where
 ex:∃ (f:Addr) (fd:FuncData),vU P w K mg base wX k f fd ps (uJ K sp)/\mg x=some (.ref f)/\PySem.W.keepIn K (.ref f)=true/\Binds K fd ps []
 mo:gW sp
theorem zU {x:Str}{k:Nat}{ps:List Str}{sp:tW}(F:FD X.prog X.w X.K X.mg X.base x k ps sp) (hr:y9 k X.A) (ha:xO X (e::es) tA) (hg:Gl X x:=by rfl) (hdb:(x == ("__debug__":Str))=false:=by decide)
  (he:starEach (e::es) X.env=(false,eval e X.env)::starEach es X.env:=by rfl) (hpl:(backTo pos (starEach es X.env)).any (·.1)=false:=by rfl):PD X (.Call (.Name x p) (e::es) [] pos) (g9 sp tA):=by
 obtain⟨⟨f,fd,h1,h2,h3,h4⟩,hm⟩:=F;exact Vt (E:=E0) (WK h1 hr hg h2 h3 h4 .nil Vy ha.pa hdb he hpl) hm ha.mo
end
end L3
namespace L3
open PySem PySem.Spec L2
open PyProof.Rows hiding St
section
variable {P:Program}{w:World}{K:PySem.W.Frag}{mg:Str->Option Value}{base:Heap}{f:Addr}{fd:FuncData}
end
theorem SR {S:SS}{p:Addr}{ds:List D}{Q:DK}(e:S p=some (.lst ds)) (h:Q (.tup ds) S):uh [.ref p] S Q:=by
 unfold uh;dsimp only;rw[e];exact h
theorem SU {S:SS}{d:D}{ds:List D}{Q:DK}(e:zZ d S=some ds) (h:∀ p,S p=none->Q (.ref p) (ups S p (.lst ds))):ui [d] S Q:=by
 unfold ui;dsimp only;rw[e];exact h
theorem SV {S:SS}{d:D}{ds:List D}{Q:DK}(e:zZ d S=some ds) (h:Q (.int ds.length) S):uj [d] S Q:=by
 unfold uj;dsimp only;rw[e];exact h
theorem Y7 {S:SS}{p:Addr}{ds:List D}{Q:Bool->SS->Prop}(e:S p=some (.lst ds)) (h:Q (!ds.isEmpty) S):vx (.ref p) S Q:=by
 unfold vx;dsimp only;rw[e];exact h
theorem SY {S:SS}{p:Addr}{ds:List D}{i:Int}{d:D}{Q:DK}(e:S p=some (.lst ds)) (e2:L2.yd ds i=some d) (h:Q d S):wF (.ref p) (.int i) S Q:=by
 unfold wF;dsimp only;rw[e];dsimp only;rw[e2];exact h
theorem SW {S:SS}{ds:List D}{i:Int}{d:D}{Q:DK}(e2:L2.yd ds i=some d) (h:Q d S):wF (.tup ds) (.int i) S Q:=by
 unfold wF;dsimp only;rw[e2];exact h
theorem SX {S:SS}{ds:List D}{i:Int}{d:D}{Q:DK}(e2:L2.yd ds i=some d) (h:Q d S):wF (.yO ds) (.int i) S Q:=by
 unfold wF;dsimp only;rw[e2];exact h
end L3
namespace L3
open PySem PySem.Spec L2
open PyProof.Rows hiding St
inductive T where
 | zk | bl (b:Bool) | int (i:Int) | str (x:Str) | tup (ts:List T) | lst (ts:List T) | zY
mutual
noncomputable def eqT:T->T->Bool
 | .zk,.zk=>true
 | .bl a,.bl b=>a == b
 | .bl a,.int b=>(if a then 1 else 0) == b
 | .int a,.bl b=>a == (if b then 1 else 0)
 | .int a,.int b=>a == b
 | .str a,.str b=>a == b
 | .tup a,.tup b=>xR a b
 | .lst a,.lst b=>xR a b
 | .zY,.zY=>true
 | _,_=>false
noncomputable def xR:List T->List T->Bool
 | [],[]=>true
 | a::as,b::bs=>eqT a b&&xR as bs
 | _,_=>false
end
mutual
noncomputable def dep:T->Nat
 | .tup ts=>1+y7 ts
 | .lst ts=>1+y7 ts
 | .zY=>cLine
 | _=>0
noncomputable def y7:List T->Nat
 | []=>0
 | t::ts=>max (dep t) (y7 ts)
end
noncomputable def oI:List T->Bool
 | []=>true
 | .int _::ts=>oI ts
 | _=>false
theorem VM (ns:List Int):oI (ns.map T.int)=true:=by
 induction ns with
 | nil=>rfl
 | cons n ns ih=>exact ih
mutual
noncomputable def Sn (S:SS):T->D->Prop
 | .zk,d=>d=.zk
 | .bl b,d=>d=.bl b
 | .int i,d=>d=.int i
 | .str x,d=>d=.str x
 | .tup ts,d=>∃ ds,d=.tup ds/\zo S ts ds
 | .lst ts,d=>∃ ds,((d=.yO ds/\oI ts=true)\/∃ a,d=.ref a/\S a=some (.lst ds))/\zo S ts ds
 | .zY,d=>∃ a kvs,d=.ref a/\S a=some (.yg kvs)
noncomputable def zo (S:SS):List T->List D->Prop
 | [],ds=>ds=[]
 | t::ts,ds=>∃ c cs,ds=c::cs/\Sn S t c/\zo S ts cs
end
mutual
theorem kf:∀ t:T,eqT t t=true
 | .zk=>by simp[eqT]
 | .bl b=>by simp[eqT]
 | .int i=>by simp[eqT]
 | .str x=>by simp[eqT]
 | .tup ts=>by simp only[eqT];exact gu ts
 | .lst ts=>by simp only[eqT];exact gu ts
 | .zY=>by simp[eqT]
theorem gu:∀ ts:List T,xR ts ts=true
 | []=>by simp[xR]
 | t::ts=>by simp only[xR,kf t,gu ts,Bool.and_self]
end
theorem uZ:∀ ts us:List T,xR ts us=((List.range (min ts.length us.length)).all (λ j=>eqT (ts.getD j .zk) (us.getD j .zk))&&ts.length == us.length)
 | [],[]=>by simp[xR]
 | [],_::_=>by simp[xR]
 | _::_,[]=>by simp[xR]
 | t::ts,u::us=>by
  simp only[xR,uZ ts us,List.length_cons];rw[show min (ts.length+1) (us.length+1)=min ts.length us.length+1 by omega,List.range_succ_eq_map,List.all_cons,List.all_map];have:(ts.length+1 == us.length+1)=(ts.length == us.length):=by rw[Bool.eq_iff_iff];simp
  rw[this,Bool.and_assoc];rfl
theorem zo.length {S:SS}:∀ {ts:List T}{ds:List D},zo S ts ds->ts.length=ds.length
 | [],ds,h=>by simp only[zo] at h;subst h;rfl
 | t::ts,ds,h=>by
  simp only[zo] at h;obtain⟨c,cs,rfl,_,h2⟩:=h;simp[zo.length h2]
section
variable {X:Cx}{pins:List (Addr×Obj)}{σ:St}{H:Hp}{s:Shared}{S:SS}
theorem ba (I:Inv X pins σ H s) {a:Addr}{xs ys:List V}(h1:yb X.K H a xs) (h2:zQ X.K H a ys):False:=by
 obtain⟨_,_,⟨o,e,c,_⟩,_⟩:=I.tuple h1;obtain⟨_,_,⟨o',n,e',c',_⟩,_⟩:=I.list h2;rw[e] at e';cases e';rw[c] at c'
 injection c' with q
 exact absurd q (by decide)
theorem Sn.yY (p:zN X.K H S) {ts:List T}{d:D}{x:V}(h:Sn S (.lst ts) d) (r:zg X.K H d x):∃ a xs ds,x=.ref a/\zQ X.K H a xs/\zq X.K H ds xs/\zo S ts ds:=by
 simp only[Sn] at h;obtain⟨ds,⟨h,_⟩ | ⟨a,h,e⟩,h2⟩:=h
 .subst h;simp only[zg] at r;obtain⟨a,xs,rfl,g1,g2⟩:=r;exact⟨a,xs,ds,rfl,g1.sq,g2,h2⟩
 .subst h;simp only[zg] at r;obtain⟨xs,g1,g2⟩:=p _ _ e;exact⟨a,xs,ds,r,zQ.of g1,g2,h2⟩
theorem Sn.yV {ts:List T}{d:D}{x:V}(h:Sn S (.tup ts) d) (r:zg X.K H d x):∃ a xs ds,x=.ref a/\yb X.K H a xs/\zq X.K H ds xs/\zo S ts ds:=by
 simp only[Sn] at h;obtain⟨ds,rfl,h2⟩:=h;simp only[zg] at r;obtain⟨a,xs,rfl,g1,g2⟩:=r;exact⟨a,xs,ds,rfl,g1,g2,h2⟩
theorem Sn.rZ (p:zN X.K H S) {d:D}{x:V}(h:Sn S .zY d) (r:zg X.K H d x):∃ a vs,x=.ref a/\H a=some (.dK vs):=by
 simp only[Sn] at h;obtain⟨a,kvs,rfl,e⟩:=h;simp only[zg] at r;obtain⟨xs,g1,g2⟩:=p _ _ e;exact⟨a,xs,r,g1⟩
theorem bh (I:Inv X pins σ H s) {a:Addr}{vs:List (Key×V)}(h:H a=some (.dK vs)):∃ o,s.heap.get? a=some o/\o.cls=.type "dict":=by
 obtain⟨_,_,_,_,o,_,_,e,c⟩:=(show xm X.prog X.w H s.heap a (.dK vs) from I.zE a _ h)
 exact⟨o,e,c.1.1⟩
theorem bc (I:Inv X pins σ H s) {a:Addr}{xs:List V}{vs:List (Key×V)}(h1:yb X.K H a xs) (h2:H a=some (.dK vs)):False:=by
 obtain⟨_,_,⟨o,e,c,_⟩,_⟩:=I.tuple h1;obtain⟨o',e',c'⟩:=bh I h2;rw[e] at e';cases e';rw[c] at c'
 injection c' with q
 exact absurd q (by decide)
theorem bg (I:Inv X pins σ H s) {a:Addr}{xs:List V}{vs:List (Key×V)}(h1:zQ X.K H a xs) (h2:H a=some (.dK vs)):False:=by
 obtain⟨_,_,⟨o,n,e,c,_⟩,_⟩:=I.list h1;obtain⟨o',e',c'⟩:=bh I h2;rw[e] at e';cases e';rw[c] at c'
 injection c' with q
 exact absurd q (by decide)
theorem Sn.flat {t:T}{d:D}{x:V}(h:Sn S t d) (r:zg X.K H d x):match t with
  | .zk=>x=.zk
  | .bl b=>x=.bl b
  | .int i=>x=.int i
  | .str y=>x=.str y
  | _=>True:=by
 cases t <;> first
  | trivial
  | (simp only[Sn] at h;subst h;simpa only [zg] using r)
mutual
theorem mM (I:Inv X pins σ H s) (p:zN X.K H S):∀ (t u:T) {d e:D}{x:V},Sn S t d->Sn S u e->zg X.K H d x->zg X.K H e x->t=u
 | .tup ts,u,d,e,x,h1,h2,r1,r2=>by
  obtain⟨a,xs,ds,rfl,g1,g2,g3⟩:=h1.yV r1;cases u with
  | zY=>obtain⟨_,_,q,g⟩:=h2.rZ p r2;cases q;exact (bc I g1 g).elim
  | tup us=>
   obtain⟨a',xs',ds',q,k1,k2,k3⟩:=h2.yV r2;cases q;have:=I.je g1 k1;subst this;rw[jb I p ts us g3 k3 g2 k2]
  | lst us=>
   obtain⟨a',xs',ds',q,k1,k2,k3⟩:=h2.yY p r2;cases q;exact (ba I g1 k1).elim
  | zk=>exact nomatch h2.flat r2
  | bl _=>exact nomatch h2.flat r2
  | int _=>exact nomatch h2.flat r2
  | str _=>exact nomatch h2.flat r2
 | .lst ts,u,d,e,x,h1,h2,r1,r2=>by
  obtain⟨a,xs,ds,rfl,g1,g2,g3⟩:=h1.yY p r1;cases u with
  | zY=>obtain⟨_,_,q,g⟩:=h2.rZ p r2;cases q;exact (bg I g1 g).elim
  | lst us=>
   obtain⟨a',xs',ds',q,k1,k2,k3⟩:=h2.yY p r2;cases q;have:=I.iQ g1 k1;subst this;rw[jb I p ts us g3 k3 g2 k2]
  | tup us=>
   obtain⟨a',xs',ds',q,k1,k2,k3⟩:=h2.yV r2;cases q;exact (ba I k1 g1).elim
  | zk=>exact nomatch h2.flat r2
  | bl _=>exact nomatch h2.flat r2
  | int _=>exact nomatch h2.flat r2
  | str _=>exact nomatch h2.flat r2
 | .zk,u,d,e,x,h1,h2,r1,r2=>by
  have q:=h1.flat r1;subst q;cases u with
  | zY=>obtain⟨_,_,q,g⟩:=h2.rZ p r2;cases q
  | zk=>rfl
  | tup us=>obtain⟨_,_,_,q,_⟩:=h2.yV r2;cases q
  | lst us=>obtain⟨_,_,_,q,_⟩:=h2.yY p r2;cases q
  | bl _=>exact nomatch h2.flat r2
  | int _=>exact nomatch h2.flat r2
  | str _=>exact nomatch h2.flat r2
 | .bl b,u,d,e,x,h1,h2,r1,r2=>by
  have q:=h1.flat r1;subst q;cases u with
  | zY=>obtain⟨_,_,q,g⟩:=h2.rZ p r2;cases q
  | bl _=>have q:=h2.flat r2;cases q;rfl
  | tup us=>obtain⟨_,_,_,q,_⟩:=h2.yV r2;cases q
  | lst us=>obtain⟨_,_,_,q,_⟩:=h2.yY p r2;cases q
  | zk=>exact nomatch h2.flat r2
  | int _=>exact nomatch h2.flat r2
  | str _=>exact nomatch h2.flat r2
 | .int b,u,d,e,x,h1,h2,r1,r2=>by
  have q:=h1.flat r1;subst q;cases u with
  | zY=>obtain⟨_,_,q,g⟩:=h2.rZ p r2;cases q
  | int _=>have q:=h2.flat r2;cases q;rfl
  | tup us=>obtain⟨_,_,_,q,_⟩:=h2.yV r2;cases q
  | lst us=>obtain⟨_,_,_,q,_⟩:=h2.yY p r2;cases q
  | zk=>exact nomatch h2.flat r2
  | bl _=>exact nomatch h2.flat r2
  | str _=>exact nomatch h2.flat r2
 | .str b,u,d,e,x,h1,h2,r1,r2=>by
  have q:=h1.flat r1;subst q;cases u with
  | zY=>obtain⟨_,_,q,g⟩:=h2.rZ p r2;cases q
  | str _=>have q:=h2.flat r2;cases q;rfl
  | tup us=>obtain⟨_,_,_,q,_⟩:=h2.yV r2;cases q
  | lst us=>obtain⟨_,_,_,q,_⟩:=h2.yY p r2;cases q
  | zk=>exact nomatch h2.flat r2
  | bl _=>exact nomatch h2.flat r2
  | int _=>exact nomatch h2.flat r2
 | .zY,u,d,e,x,h1,h2,r1,r2=>by
  obtain⟨a,vs,rfl,g⟩:=h1.rZ p r1;cases u with
  | zY=>rfl
  | tup us=>obtain⟨_,_,_,q,g1,_⟩:=h2.yV r2;cases q;exact (bc I g1 g).elim
  | lst us=>obtain⟨_,_,_,q,g1,_⟩:=h2.yY p r2;cases q;exact (bg I g1 g).elim
  | zk=>exact nomatch h2.flat r2
  | bl _=>exact nomatch h2.flat r2
  | int _=>exact nomatch h2.flat r2
  | str _=>exact nomatch h2.flat r2
theorem jb (I:Inv X pins σ H s) (p:zN X.K H S):∀ (ts us:List T) {ds es:List D}{xs:List V},zo S ts ds->zo S us es->zq X.K H ds xs->zq X.K H es xs->ts=us
 | [],us,ds,es,xs,h1,h2,r1,r2=>by
  have e:=h1.length.trans (r1.length.trans (r2.length.symm.trans h2.length.symm));cases us with
  | nil=>rfl
  | cons _ _=>simp at e
 | t::ts,[],ds,es,xs,h1,h2,r1,r2=>by
  have e:=h1.length.trans (r1.length.trans (r2.length.symm.trans h2.length.symm));simp at e
 | t::ts,u::us,ds,es,xs,h1,h2,r1,r2=>by
  simp only[zo] at h1 h2;obtain⟨c,cs,rfl,a1,a2⟩:=h1;obtain⟨c',cs',rfl,b1,b2⟩:=h2;simp only[zq] at r1 r2;obtain⟨y,ys,rfl,g1,g2⟩:=r1;obtain⟨y',ys',q,k1,k2⟩:=r2;cases q;rw[mM I p t u a1 b1 g1 k1,jb I p ts us a2 b2 g2 k2]
end
theorem zo.get {ts:List T}{ds:List D}(h:zo S ts ds):∀ {j:Nat},j<ts.length->∃ c,ds[j]?=some c/\Sn S (ts.getD j .zk) c:=by
 induction ts generalizing ds with
 | nil=>intro j hj;simp at hj
 | cons t ts ih=>
  intro j hj;simp only[zo] at h;obtain⟨c,cs,rfl,h1,h2⟩:=h;cases j with
  | zero=>exact⟨c,rfl,h1⟩
  | succ j=>
   obtain⟨c',e,h3⟩:=ih h2 (j:=j) (by simpa using hj);exact⟨c',by simpa using e,by simpa using h3⟩
theorem ag:∀ {ts:List T}{j:Nat},j<ts.length->dep (ts.getD j .zk)<=y7 ts
 | [],j,h=>by simp at h
 | t::ts,0,_=>by simp only[y7,List.getD_cons_zero];omega
 | t::ts,j+1,h=>by
  have:=ag (ts:=ts) (j:=j) (by simpa using h);simp only[y7,List.getD_cons_succ];omega
mutual
theorem bP (I:Inv X pins σ H s) (p:zN X.K H S):∀ (t u:T) {A:Around}{d e:D}{x y:V}{a b:Value},A.units+dep t<cLine->A.units+dep u<cLine->Sn S t d->Sn S u e->zg X.K H d x->zg X.K H e y->RelV x a->RelV y b->SeqAt.EqAt A s a b (eqT t u)
 | .zk,u,A,d,e,x,y,a,b,hu,hu',h1,h2,r1,r2,v1,v2=>by
  have q:=h1.flat r1;subst q;cases v1;cases u with
  | zY=>simp only[dep] at hu';omega
  | zk=>have q:=h2.flat r2;subst q;cases v2;simp only[eqT];exact SeqAt.EqAt.same _
  | bl b=>have q:=h2.flat r2;subst q;cases v2;simp only[eqT];exact SeqAt.EqAt.none_bool _
  | int i=>have q:=h2.flat r2;subst q;obtain⟨t,rfl⟩:=v2;simp only[eqT];exact SeqAt.EqAt.none_int _ _
  | str i=>have q:=h2.flat r2;subst q;obtain⟨t,rfl⟩:=v2;simp only[eqT];exact SeqAt.EqAt.none_str _ _
  | tup us=>obtain⟨a',xs',ds',rfl,k1,k2,k3⟩:=h2.yV r2;cases v2;obtain⟨_,_,pt,_⟩:=I.tuple k1;simp only[eqT];exact SeqAt.EqAt.none_tuple pt (by omega)
  | lst us=>obtain⟨a',xs',ds',rfl,k1,k2,k3⟩:=h2.yY p r2;cases v2;obtain⟨_,_,pl,_⟩:=I.list k1;simp only[eqT];exact SeqAt.EqAt.none_list pl.isList (by omega)
 | .bl c,u,A,d,e,x,y,a,b,hu,hu',h1,h2,r1,r2,v1,v2=>by
  have q:=h1.flat r1;subst q;cases v1;cases u with
  | zY=>simp only[dep] at hu';omega
  | zk=>have q:=h2.flat r2;subst q;cases v2;simp only[eqT];exact SeqAt.EqAt.bool_none _
  | bl b=>have q:=h2.flat r2;subst q;cases v2;simp only[eqT];exact SeqAt.EqAt.bool_bool _ _
  | int i=>have q:=h2.flat r2;subst q;obtain⟨t,rfl⟩:=v2;simp only[eqT];exact SeqAt.EqAt.bool_int _ _ _
  | str i=>have q:=h2.flat r2;subst q;obtain⟨t,rfl⟩:=v2;simp only[eqT];exact SeqAt.EqAt.bool_str _ _ _
  | tup us=>obtain⟨a',xs',ds',rfl,k1,k2,k3⟩:=h2.yV r2;cases v2;obtain⟨_,_,pt,_⟩:=I.tuple k1;simp only[eqT];exact SeqAt.EqAt.bool_tuple _ pt (by omega)
  | lst us=>obtain⟨a',xs',ds',rfl,k1,k2,k3⟩:=h2.yY p r2;cases v2;obtain⟨_,_,pl,_⟩:=I.list k1;simp only[eqT];exact SeqAt.EqAt.bool_list _ pl.isList (by omega)
 | .int c,u,A,d,e,x,y,a,b,hu,hu',h1,h2,r1,r2,v1,v2=>by
  have q:=h1.flat r1;subst q;obtain⟨tk,rfl⟩:=v1;cases u with
  | zY=>simp only[dep] at hu';omega
  | zk=>have q:=h2.flat r2;subst q;cases v2;simp only[eqT];exact SeqAt.EqAt.int_none _ _
  | bl b=>have q:=h2.flat r2;subst q;cases v2;simp only[eqT];exact SeqAt.EqAt.int_bool _ _ _
  | int i=>have q:=h2.flat r2;subst q;obtain⟨t,rfl⟩:=v2;simp only[eqT];exact SeqAt.EqAt.int_int _ _ _ _
  | str i=>have q:=h2.flat r2;subst q;obtain⟨t,rfl⟩:=v2;simp only[eqT];exact SeqAt.EqAt.int_str _ _ _ _
  | tup us=>obtain⟨a',xs',ds',rfl,k1,k2,k3⟩:=h2.yV r2;cases v2;obtain⟨_,_,pt,_⟩:=I.tuple k1;simp only[eqT];exact SeqAt.EqAt.int_tuple _ _ pt (by omega)
  | lst us=>obtain⟨a',xs',ds',rfl,k1,k2,k3⟩:=h2.yY p r2;cases v2;obtain⟨_,_,pl,_⟩:=I.list k1;simp only[eqT];exact SeqAt.EqAt.int_list _ _ pl.isList (by omega)
 | .str c,u,A,d,e,x,y,a,b,hu,hu',h1,h2,r1,r2,v1,v2=>by
  have q:=h1.flat r1;subst q;obtain⟨tk,rfl⟩:=v1;cases u with
  | zY=>simp only[dep] at hu';omega
  | zk=>have q:=h2.flat r2;subst q;cases v2;simp only[eqT];exact SeqAt.EqAt.str_none _ _
  | bl b=>have q:=h2.flat r2;subst q;cases v2;simp only[eqT];exact SeqAt.EqAt.str_bool _ _ _
  | int i=>have q:=h2.flat r2;subst q;obtain⟨t,rfl⟩:=v2;simp only[eqT];exact SeqAt.EqAt.str_int _ _ _ _
  | str i=>have q:=h2.flat r2;subst q;obtain⟨t,rfl⟩:=v2;simp only[eqT];exact SeqAt.EqAt.str_str _ _ _ _
  | tup us=>obtain⟨a',xs',ds',rfl,k1,k2,k3⟩:=h2.yV r2;cases v2;obtain⟨_,_,pt,_⟩:=I.tuple k1;simp only[eqT];exact SeqAt.EqAt.str_tuple _ _ pt (by omega)
  | lst us=>obtain⟨a',xs',ds',rfl,k1,k2,k3⟩:=h2.yY p r2;cases v2;obtain⟨_,_,pl,_⟩:=I.list k1;simp only[eqT];exact SeqAt.EqAt.str_list _ _ pl.isList (by omega)
 | .tup ts,u,A,d,e,x,y,a,b,hu,hu',h1,h2,r1,r2,v1,v2=>by
  have hd1:=h1;have hr1:=r1;obtain⟨l,xs,ds,rfl,g1,g2,g3⟩:=h1.yV r1;cases v1;obtain⟨its,w1,pt,_⟩:=I.tuple g1;simp only[dep] at hu;cases u with
  | zY=>simp only[dep] at hu';omega
  | zk=>have q:=h2.flat r2;subst q;cases v2;simp only[eqT];exact SeqAt.EqAt.tuple_none pt (by omega)
  | bl b=>have q:=h2.flat r2;subst q;cases v2;simp only[eqT];exact SeqAt.EqAt.tuple_bool _ pt (by omega)
  | int i=>have q:=h2.flat r2;subst q;obtain⟨t,rfl⟩:=v2;simp only[eqT];exact SeqAt.EqAt.tuple_int _ _ pt (by omega)
  | str i=>have q:=h2.flat r2;subst q;obtain⟨t,rfl⟩:=v2;simp only[eqT];exact SeqAt.EqAt.tuple_str _ _ pt (by omega)
  | tup us=>
   by_cases hlb:(Value.ref l)=b
   .subst hlb;have hy:y=.ref l:=RelV.inj v2 rfl;subst hy;have:=mM I p (.tup ts) (.tup us) hd1 h2 hr1 r2;rw[<- this,kf];exact SeqAt.EqAt.same _
   .obtain⟨l',xs',ds',rfl,k1,k2,k3⟩:=h2.yV r2;cases v2;obtain⟨its',w2,pt',_⟩:=I.tuple k1;simp only[dep] at hu';have e1:its.toArray.size=ts.length:=by rw[List.size_toArray,<- w1.length,<- g2.length,<- g3.length]
    have e2:its'.toArray.size=us.length:=by rw[List.size_toArray,<- w2.length,<- k2.length,<- k3.length]
    have q:=SeqAt.RcAt.tuples (A:=A) (e:=λ j=>eqT (ts.getD j .zk) (us.getD j .zk)) pt pt' (by omega) λ j h1 h2=>by
     have:=rX I p ts us (A:=A.in1) (by show A.units+1+y7 ts<cLine;omega) (by show A.units+1+y7 us<cLine;omega) g3 k3 g2 k2 w1 w2 j (by simpa using h1) (by simpa using h2);simpa using this
    rw[e1,e2] at q;have q':=SeqAt.EqAt.of_refs (λ z=>hlb (by rw[z])) q;simp only[eqT,uZ];exact q'
  | lst us=>obtain⟨l',xs',ds',rfl,k1,k2,k3⟩:=h2.yY p r2;cases v2;obtain⟨_,_,pl,_⟩:=I.list k1;simp only[eqT];exact SeqAt.EqAt.tuple_list pt pl.isList (by omega)
 | .lst ts,u,A,d,e,x,y,a,b,hu,hu',h1,h2,r1,r2,v1,v2=>by
  have hd1:=h1;have hr1:=r1;obtain⟨l,xs,ds,rfl,g1,g2,g3⟩:=h1.yY p r1;cases v1;obtain⟨its,w1,pl,_⟩:=I.list g1;simp only[dep] at hu;cases u with
  | zY=>simp only[dep] at hu';omega
  | zk=>have q:=h2.flat r2;subst q;cases v2;simp only[eqT];exact SeqAt.EqAt.list_none pl.isList (by omega)
  | bl b=>have q:=h2.flat r2;subst q;cases v2;simp only[eqT];exact SeqAt.EqAt.list_bool _ pl.isList (by omega)
  | int i=>have q:=h2.flat r2;subst q;obtain⟨t,rfl⟩:=v2;simp only[eqT];exact SeqAt.EqAt.list_int _ _ pl.isList (by omega)
  | str i=>have q:=h2.flat r2;subst q;obtain⟨t,rfl⟩:=v2;simp only[eqT];exact SeqAt.EqAt.list_str _ _ pl.isList (by omega)
  | tup us=>obtain⟨l',xs',ds',rfl,k1,k2,k3⟩:=h2.yV r2;cases v2;obtain⟨_,_,pt,_⟩:=I.tuple k1;simp only[eqT];exact SeqAt.EqAt.list_tuple pl.isList pt (by omega)
  | lst us=>
   by_cases hlb:(Value.ref l)=b
   .subst hlb;have hy:y=.ref l:=RelV.inj v2 rfl;subst hy;have:=mM I p (.lst ts) (.lst us) hd1 h2 hr1 r2;rw[<- this,kf];exact SeqAt.EqAt.same _
   .obtain⟨l',xs',ds',rfl,k1,k2,k3⟩:=h2.yY p r2;cases v2;obtain⟨its',w2,pl',_⟩:=I.list k1;simp only[dep] at hu';have e1:its.toArray.size=ts.length:=by rw[List.size_toArray,<- w1.length,<- g2.length,<- g3.length]
    have e2:its'.toArray.size=us.length:=by rw[List.size_toArray,<- w2.length,<- k2.length,<- k3.length]
    have hne:l≠l':=λ z=>hlb (by rw[z]);by_cases hsz:ts.length=us.length
    .have q:=SeqAt.RcAt.lists (A:=A) (e:=λ j=>eqT (ts.getD j .zk) (us.getD j .zk)) pl.isList pl'.isList (by rw[e1,e2];exact hsz) (by omega) λ j h1 h2=>by
      have:=rX I p ts us (A:=A.in1) (by show A.units+1+y7 ts<cLine;omega) (by show A.units+1+y7 us<cLine;omega) g3 k3 g2 k2 w1 w2 j (by simpa using h1) (by simpa using h2);simpa using this
     rw[e1] at q;have q':=SeqAt.EqAt.of_refs hne q;simp only[eqT,uZ];rw[<- hsz,Nat.min_self];simpa using q'
    .have q:=SeqAt.RcAt.lists_lengths (A:=A) pl.isList pl'.isList (by rw[e1,e2];simpa using hsz) (by omega);have q':=SeqAt.EqAt.of_refs hne q;simp only[eqT,uZ];have:(ts.length == us.length)=false:=by simpa using hsz
     rw[this,Bool.and_false];exact q'
 | .zY,u,A,d,e,x,y,a,b,hu,hu',h1,h2,r1,r2,v1,v2=>by simp only[dep] at hu;omega
theorem rX (I:Inv X pins σ H s) (p:zN X.K H S):∀ (ts us:List T) {A:Around}{ds es:List D}{xs ys:List V}{its its':List Value},A.units+y7 ts<cLine->A.units+y7 us<cLine->zo S ts ds->zo S us es->zq X.K H ds xs->zq X.K H es ys->Vals xs its->Vals ys its'->
  ∀ (j:Nat) (h1:j<its.length) (h2:j<its'.length),SeqAt.EqAt A s its[j] its'[j] (eqT (ts.getD j .zk) (us.getD j .zk))
 | [],us,A,ds,es,xs,ys,its,its',hu,hu',s1,s2,r1,r2,v1,v2,j,h1,h2=>by
  rw[<- v1.length,<- r1.length,<- s1.length] at h1;simp at h1
 | t::ts,[],A,ds,es,xs,ys,its,its',hu,hu',s1,s2,r1,r2,v1,v2,j,h1,h2=>by
  rw[<- v2.length,<- r2.length,<- s2.length] at h2;simp at h2
 | t::ts,u::us,A,ds,es,xs,ys,its,its',hu,hu',s1,s2,r1,r2,v1,v2,j,h1,h2=>by
  simp only[zo] at s1 s2;obtain⟨c,cs,rfl,a1,a2⟩:=s1;obtain⟨c',cs',rfl,b1,b2⟩:=s2;simp only[zq] at r1 r2;obtain⟨y,ys,rfl,g1,g2⟩:=r1;obtain⟨y',ys',rfl,k1,k2⟩:=r2;cases v1 with
  | cons m1 m2=>
   cases v2 with
   | cons n1 n2=>
    simp only[y7] at hu hu';cases j with
    | zero=>simpa using bP I p t u (A:=A) (by omega) (by omega) a1 b1 g1 k1 m1 n1
    | succ j=>simpa using rX I p ts us (A:=A) (by omega) (by omega) a2 b2 g2 k2 m2 n2 j (by simpa using h1) (by simpa using h2)
end
end
end L3
namespace L3
open PySem PySem.Spec L2
open PyProof.Rows hiding St
section
variable {X:Cx}{pins:List (Addr×Obj)}{σ:St}{H:Hp}{s:Shared}{S:SS}
theorem XB (I:Inv X pins σ H s) (p:zN X.K H S):∀ (t u:T) {A:Around}{d e:D}{x y:V}{a b:Value},A.units+dep t<cLine->A.units+dep u<cLine->Sn S t d->Sn S u e->zg X.K H d x->zg X.K H e y->RelV x a->RelV y b->SeqAt.RcAt A s a b (eqT t u)
 | .zk,u,A,d,e,x,y,a,b,hu,hu',h1,h2,r1,r2,v1,v2=>by
  have q:=h1.flat r1;subst q;cases v1;cases u with
  | zY=>simp only[dep] at hu';omega
  | zk=>have q:=h2.flat r2;subst q;cases v2;simp only[eqT];exact SeqAt.RcAt.none_none
  | bl c2=>have q:=h2.flat r2;subst q;cases v2;simp only[eqT];exact SeqAt.RcAt.none_bool _
  | int c2=>have q:=h2.flat r2;subst q;obtain⟨tk2,rfl⟩:=v2;simp only[eqT];exact SeqAt.RcAt.none_int _ _
  | str c2=>have q:=h2.flat r2;subst q;obtain⟨tk2,rfl⟩:=v2;simp only[eqT];exact SeqAt.RcAt.none_str _ _
  | tup c2=>obtain⟨l',xs',ds',rfl,k1,k2,k3⟩:=h2.yV r2;cases v2;obtain⟨its',w2,pt',_⟩:=I.tuple k1;simp only[dep] at hu';simp only[eqT];exact SeqAt.RcAt.none_tuple pt' (by omega)
  | lst c2=>obtain⟨l',xs',ds',rfl,k1,k2,k3⟩:=h2.yY p r2;cases v2;obtain⟨its',w2,pl',_⟩:=I.list k1;simp only[dep] at hu';simp only[eqT];exact SeqAt.RcAt.none_list pl'.isList (by omega)
 | .bl c,u,A,d,e,x,y,a,b,hu,hu',h1,h2,r1,r2,v1,v2=>by
  have q:=h1.flat r1;subst q;cases v1;cases u with
  | zY=>simp only[dep] at hu';omega
  | zk=>have q:=h2.flat r2;subst q;cases v2;simp only[eqT];exact SeqAt.RcAt.bool_none _
  | bl c2=>have q:=h2.flat r2;subst q;cases v2;simp only[eqT];exact SeqAt.RcAt.bool_bool _ _
  | int c2=>have q:=h2.flat r2;subst q;obtain⟨tk2,rfl⟩:=v2;simp only[eqT];exact SeqAt.RcAt.bool_int _ _ _
  | str c2=>have q:=h2.flat r2;subst q;obtain⟨tk2,rfl⟩:=v2;simp only[eqT];exact SeqAt.RcAt.bool_str _ _ _
  | tup c2=>obtain⟨l',xs',ds',rfl,k1,k2,k3⟩:=h2.yV r2;cases v2;obtain⟨its',w2,pt',_⟩:=I.tuple k1;simp only[dep] at hu';simp only[eqT];exact SeqAt.RcAt.bool_tuple _ pt' (by omega)
  | lst c2=>obtain⟨l',xs',ds',rfl,k1,k2,k3⟩:=h2.yY p r2;cases v2;obtain⟨its',w2,pl',_⟩:=I.list k1;simp only[dep] at hu';simp only[eqT];exact SeqAt.RcAt.bool_list _ pl'.isList (by omega)
 | .int c,u,A,d,e,x,y,a,b,hu,hu',h1,h2,r1,r2,v1,v2=>by
  have q:=h1.flat r1;subst q;obtain⟨tk,rfl⟩:=v1;cases u with
  | zY=>simp only[dep] at hu';omega
  | zk=>have q:=h2.flat r2;subst q;cases v2;simp only[eqT];exact SeqAt.RcAt.int_none _ _
  | bl c2=>have q:=h2.flat r2;subst q;cases v2;simp only[eqT];exact SeqAt.RcAt.int_bool _ _ _
  | int c2=>have q:=h2.flat r2;subst q;obtain⟨tk2,rfl⟩:=v2;simp only[eqT];exact SeqAt.RcAt.int_int _ _ _ _
  | str c2=>have q:=h2.flat r2;subst q;obtain⟨tk2,rfl⟩:=v2;simp only[eqT];exact SeqAt.RcAt.int_str _ _ _ _
  | tup c2=>obtain⟨l',xs',ds',rfl,k1,k2,k3⟩:=h2.yV r2;cases v2;obtain⟨its',w2,pt',_⟩:=I.tuple k1;simp only[dep] at hu';simp only[eqT];exact SeqAt.RcAt.int_tuple _ _ pt' (by omega)
  | lst c2=>obtain⟨l',xs',ds',rfl,k1,k2,k3⟩:=h2.yY p r2;cases v2;obtain⟨its',w2,pl',_⟩:=I.list k1;simp only[dep] at hu';simp only[eqT];exact SeqAt.RcAt.int_list _ _ pl'.isList (by omega)
 | .str c,u,A,d,e,x,y,a,b,hu,hu',h1,h2,r1,r2,v1,v2=>by
  have q:=h1.flat r1;subst q;obtain⟨tk,rfl⟩:=v1;cases u with
  | zY=>simp only[dep] at hu';omega
  | zk=>have q:=h2.flat r2;subst q;cases v2;simp only[eqT];exact SeqAt.RcAt.str_none _ _
  | bl c2=>have q:=h2.flat r2;subst q;cases v2;simp only[eqT];exact SeqAt.RcAt.str_bool _ _ _
  | int c2=>have q:=h2.flat r2;subst q;obtain⟨tk2,rfl⟩:=v2;simp only[eqT];exact SeqAt.RcAt.str_int _ _ _ _
  | str c2=>have q:=h2.flat r2;subst q;obtain⟨tk2,rfl⟩:=v2;simp only[eqT];exact SeqAt.RcAt.str_str _ _ _ _
  | tup c2=>obtain⟨l',xs',ds',rfl,k1,k2,k3⟩:=h2.yV r2;cases v2;obtain⟨its',w2,pt',_⟩:=I.tuple k1;simp only[dep] at hu';simp only[eqT];exact SeqAt.RcAt.str_tuple _ _ pt' (by omega)
  | lst c2=>obtain⟨l',xs',ds',rfl,k1,k2,k3⟩:=h2.yY p r2;cases v2;obtain⟨its',w2,pl',_⟩:=I.list k1;simp only[dep] at hu';simp only[eqT];exact SeqAt.RcAt.str_list _ _ pl'.isList (by omega)
 | .tup c,u,A,d,e,x,y,a,b,hu,hu',h1,h2,r1,r2,v1,v2=>by
  obtain⟨l,xs,ds,rfl,g1,g2,g3⟩:=h1.yV r1;cases v1;obtain⟨its,w1,pt,_⟩:=I.tuple g1;simp only[dep] at hu;cases u with
  | zY=>simp only[dep] at hu';omega
  | zk=>have q:=h2.flat r2;subst q;cases v2;simp only[eqT];exact SeqAt.RcAt.tuple_none pt (by omega)
  | bl c2=>have q:=h2.flat r2;subst q;cases v2;simp only[eqT];exact SeqAt.RcAt.tuple_bool _ pt (by omega)
  | int c2=>have q:=h2.flat r2;subst q;obtain⟨tk2,rfl⟩:=v2;simp only[eqT];exact SeqAt.RcAt.tuple_int _ _ pt (by omega)
  | str c2=>have q:=h2.flat r2;subst q;obtain⟨tk2,rfl⟩:=v2;simp only[eqT];exact SeqAt.RcAt.tuple_str _ _ pt (by omega)
  | tup c2=>
   obtain⟨l',xs',ds',rfl,k1,k2,k3⟩:=h2.yV r2;cases v2;obtain⟨its',w2,pt',_⟩:=I.tuple k1;simp only[dep] at hu';have e1:its.toArray.size=c.length:=by rw[List.size_toArray,<- w1.length,<- g2.length,<- g3.length]
   have e2:its'.toArray.size=c2.length:=by rw[List.size_toArray,<- w2.length,<- k2.length,<- k3.length]
   have q:=SeqAt.RcAt.tuples (A:=A) (e:=λ j=>eqT (c.getD j .zk) (c2.getD j .zk)) pt pt' (by omega) λ j h1 h2=>by
    have:=rX I p c c2 (A:=A.in1) (by show A.units+1+y7 c<cLine;omega) (by show A.units+1+y7 c2<cLine;omega) g3 k3 g2 k2 w1 w2 j (by simpa using h1) (by simpa using h2);simpa using this
   rw[e1,e2] at q;simp only[eqT,uZ];exact q
  | lst c2=>obtain⟨l',xs',ds',rfl,k1,k2,k3⟩:=h2.yY p r2;cases v2;obtain⟨its',w2,pl',_⟩:=I.list k1;simp only[dep] at hu';simp only[eqT];exact SeqAt.RcAt.tuple_list pt pl'.isList (by omega)
 | .lst c,u,A,d,e,x,y,a,b,hu,hu',h1,h2,r1,r2,v1,v2=>by
  obtain⟨l,xs,ds,rfl,g1,g2,g3⟩:=h1.yY p r1;cases v1;obtain⟨its,w1,pl,_⟩:=I.list g1;simp only[dep] at hu;cases u with
  | zY=>simp only[dep] at hu';omega
  | zk=>have q:=h2.flat r2;subst q;cases v2;simp only[eqT];exact SeqAt.RcAt.list_none pl.isList (by omega)
  | bl c2=>have q:=h2.flat r2;subst q;cases v2;simp only[eqT];exact SeqAt.RcAt.list_bool _ pl.isList (by omega)
  | int c2=>have q:=h2.flat r2;subst q;obtain⟨tk2,rfl⟩:=v2;simp only[eqT];exact SeqAt.RcAt.list_int _ _ pl.isList (by omega)
  | str c2=>have q:=h2.flat r2;subst q;obtain⟨tk2,rfl⟩:=v2;simp only[eqT];exact SeqAt.RcAt.list_str _ _ pl.isList (by omega)
  | tup c2=>obtain⟨l',xs',ds',rfl,k1,k2,k3⟩:=h2.yV r2;cases v2;obtain⟨its',w2,pt',_⟩:=I.tuple k1;simp only[dep] at hu';simp only[eqT];exact SeqAt.RcAt.list_tuple pl.isList pt' (by omega)
  | lst c2=>
   obtain⟨l',xs',ds',rfl,k1,k2,k3⟩:=h2.yY p r2;cases v2;obtain⟨its',w2,pl',_⟩:=I.list k1;simp only[dep] at hu';have e1:its.toArray.size=c.length:=by rw[List.size_toArray,<- w1.length,<- g2.length,<- g3.length]
   have e2:its'.toArray.size=c2.length:=by rw[List.size_toArray,<- w2.length,<- k2.length,<- k3.length]
   by_cases hsz:c.length=c2.length
   .have q:=SeqAt.RcAt.lists (A:=A) (e:=λ j=>eqT (c.getD j .zk) (c2.getD j .zk)) pl.isList pl'.isList (by rw[e1,e2];exact hsz) (by omega) λ j h1 h2=>by
     have:=rX I p c c2 (A:=A.in1) (by show A.units+1+y7 c<cLine;omega) (by show A.units+1+y7 c2<cLine;omega) g3 k3 g2 k2 w1 w2 j (by simpa using h1) (by simpa using h2);simpa using this
    rw[e1] at q;simp only[eqT,uZ];rw[<- hsz,Nat.min_self];simpa using q
   .have q:=SeqAt.RcAt.lists_lengths (A:=A) pl.isList pl'.isList (by rw[e1,e2];simpa using hsz) (by omega);simp only[eqT,uZ];have z:(c.length == c2.length)=false:=by simpa using hsz
    rw[z,Bool.and_false];exact q
 | .zY,u,A,d,e,x,y,a,b,hu,hu',h1,h2,r1,r2,v1,v2=>by simp only[dep] at hu;omega
theorem X9 (I:Inv X pins σ H s) (p:zN X.K H S):∀ (t u:T) {A:Around}{d e:D}{x y:V}{a b:Value},A.units+dep t<cLine->A.units+dep u<cLine->Sn S t d->Sn S u e->zg X.K H d x->zg X.K H e y->RelV x a->RelV y b->SeqAt.RcNeAt A s a b (!eqT t u)
 | .zk,u,A,d,e,x,y,a,b,hu,hu',h1,h2,r1,r2,v1,v2=>by
  have q:=h1.flat r1;subst q;cases v1;cases u with
  | zY=>simp only[dep] at hu';omega
  | zk=>have q:=h2.flat r2;subst q;cases v2;simp only[eqT,Bool.not_false,Bool.not_true];exact SeqAt.RcNeAt.none_none
  | bl c2=>have q:=h2.flat r2;subst q;cases v2;simp only[eqT,Bool.not_false,Bool.not_true];exact SeqAt.RcNeAt.none_bool _
  | int c2=>have q:=h2.flat r2;subst q;obtain⟨tk2,rfl⟩:=v2;simp only[eqT,Bool.not_false,Bool.not_true];exact SeqAt.RcNeAt.none_int _ _
  | str c2=>have q:=h2.flat r2;subst q;obtain⟨tk2,rfl⟩:=v2;simp only[eqT,Bool.not_false,Bool.not_true];exact SeqAt.RcNeAt.none_str _ _
  | tup c2=>obtain⟨l',xs',ds',rfl,k1,k2,k3⟩:=h2.yV r2;cases v2;obtain⟨its',w2,pt',_⟩:=I.tuple k1;simp only[dep] at hu';simp only[eqT,Bool.not_false,Bool.not_true];exact SeqAt.RcNeAt.none_tuple pt' (by omega)
  | lst c2=>obtain⟨l',xs',ds',rfl,k1,k2,k3⟩:=h2.yY p r2;cases v2;obtain⟨its',w2,pl',_⟩:=I.list k1;simp only[dep] at hu';simp only[eqT,Bool.not_false,Bool.not_true];exact SeqAt.RcNeAt.none_list pl'.isList (by omega)
 | .bl c,u,A,d,e,x,y,a,b,hu,hu',h1,h2,r1,r2,v1,v2=>by
  have q:=h1.flat r1;subst q;cases v1;cases u with
  | zY=>simp only[dep] at hu';omega
  | zk=>have q:=h2.flat r2;subst q;cases v2;simp only[eqT,Bool.not_false,Bool.not_true];exact SeqAt.RcNeAt.bool_none _
  | bl c2=>have q:=h2.flat r2;subst q;cases v2;simp only[eqT];exact SeqAt.RcNeAt.bool_bool _ _
  | int c2=>have q:=h2.flat r2;subst q;obtain⟨tk2,rfl⟩:=v2;simp only[eqT];exact SeqAt.RcNeAt.bool_int _ _ _
  | str c2=>have q:=h2.flat r2;subst q;obtain⟨tk2,rfl⟩:=v2;simp only[eqT,Bool.not_false,Bool.not_true];exact SeqAt.RcNeAt.bool_str _ _ _
  | tup c2=>obtain⟨l',xs',ds',rfl,k1,k2,k3⟩:=h2.yV r2;cases v2;obtain⟨its',w2,pt',_⟩:=I.tuple k1;simp only[dep] at hu';simp only[eqT,Bool.not_false,Bool.not_true];exact SeqAt.RcNeAt.bool_tuple _ pt' (by omega)
  | lst c2=>obtain⟨l',xs',ds',rfl,k1,k2,k3⟩:=h2.yY p r2;cases v2;obtain⟨its',w2,pl',_⟩:=I.list k1;simp only[dep] at hu';simp only[eqT,Bool.not_false,Bool.not_true];exact SeqAt.RcNeAt.bool_list _ pl'.isList (by omega)
 | .int c,u,A,d,e,x,y,a,b,hu,hu',h1,h2,r1,r2,v1,v2=>by
  have q:=h1.flat r1;subst q;obtain⟨tk,rfl⟩:=v1;cases u with
  | zY=>simp only[dep] at hu';omega
  | zk=>have q:=h2.flat r2;subst q;cases v2;simp only[eqT,Bool.not_false,Bool.not_true];exact SeqAt.RcNeAt.int_none _ _
  | bl c2=>have q:=h2.flat r2;subst q;cases v2;simp only[eqT];exact SeqAt.RcNeAt.int_bool _ _ _
  | int c2=>have q:=h2.flat r2;subst q;obtain⟨tk2,rfl⟩:=v2;simp only[eqT];exact SeqAt.RcNeAt.int_int _ _ _ _
  | str c2=>have q:=h2.flat r2;subst q;obtain⟨tk2,rfl⟩:=v2;simp only[eqT,Bool.not_false,Bool.not_true];exact SeqAt.RcNeAt.int_str _ _ _ _
  | tup c2=>obtain⟨l',xs',ds',rfl,k1,k2,k3⟩:=h2.yV r2;cases v2;obtain⟨its',w2,pt',_⟩:=I.tuple k1;simp only[dep] at hu';simp only[eqT,Bool.not_false,Bool.not_true];exact SeqAt.RcNeAt.int_tuple _ _ pt' (by omega)
  | lst c2=>obtain⟨l',xs',ds',rfl,k1,k2,k3⟩:=h2.yY p r2;cases v2;obtain⟨its',w2,pl',_⟩:=I.list k1;simp only[dep] at hu';simp only[eqT,Bool.not_false,Bool.not_true];exact SeqAt.RcNeAt.int_list _ _ pl'.isList (by omega)
 | .str c,u,A,d,e,x,y,a,b,hu,hu',h1,h2,r1,r2,v1,v2=>by
  have q:=h1.flat r1;subst q;obtain⟨tk,rfl⟩:=v1;cases u with
  | zY=>simp only[dep] at hu';omega
  | zk=>have q:=h2.flat r2;subst q;cases v2;simp only[eqT,Bool.not_false,Bool.not_true];exact SeqAt.RcNeAt.str_none _ _
  | bl c2=>have q:=h2.flat r2;subst q;cases v2;simp only[eqT,Bool.not_false,Bool.not_true];exact SeqAt.RcNeAt.str_bool _ _ _
  | int c2=>have q:=h2.flat r2;subst q;obtain⟨tk2,rfl⟩:=v2;simp only[eqT,Bool.not_false,Bool.not_true];exact SeqAt.RcNeAt.str_int _ _ _ _
  | str c2=>have q:=h2.flat r2;subst q;obtain⟨tk2,rfl⟩:=v2;simp only[eqT];exact SeqAt.RcNeAt.str_str _ _ _ _
  | tup c2=>obtain⟨l',xs',ds',rfl,k1,k2,k3⟩:=h2.yV r2;cases v2;obtain⟨its',w2,pt',_⟩:=I.tuple k1;simp only[dep] at hu';simp only[eqT,Bool.not_false,Bool.not_true];exact SeqAt.RcNeAt.str_tuple _ _ pt' (by omega)
  | lst c2=>obtain⟨l',xs',ds',rfl,k1,k2,k3⟩:=h2.yY p r2;cases v2;obtain⟨its',w2,pl',_⟩:=I.list k1;simp only[dep] at hu';simp only[eqT,Bool.not_false,Bool.not_true];exact SeqAt.RcNeAt.str_list _ _ pl'.isList (by omega)
 | .tup c,u,A,d,e,x,y,a,b,hu,hu',h1,h2,r1,r2,v1,v2=>by
  obtain⟨l,xs,ds,rfl,g1,g2,g3⟩:=h1.yV r1;cases v1;obtain⟨its,w1,pt,_⟩:=I.tuple g1;simp only[dep] at hu;cases u with
  | zY=>simp only[dep] at hu';omega
  | zk=>have q:=h2.flat r2;subst q;cases v2;simp only[eqT,Bool.not_false,Bool.not_true];exact SeqAt.RcNeAt.tuple_none pt (by omega)
  | bl c2=>have q:=h2.flat r2;subst q;cases v2;simp only[eqT,Bool.not_false,Bool.not_true];exact SeqAt.RcNeAt.tuple_bool _ pt (by omega)
  | int c2=>have q:=h2.flat r2;subst q;obtain⟨tk2,rfl⟩:=v2;simp only[eqT,Bool.not_false,Bool.not_true];exact SeqAt.RcNeAt.tuple_int _ _ pt (by omega)
  | str c2=>have q:=h2.flat r2;subst q;obtain⟨tk2,rfl⟩:=v2;simp only[eqT,Bool.not_false,Bool.not_true];exact SeqAt.RcNeAt.tuple_str _ _ pt (by omega)
  | tup c2=>
   obtain⟨l',xs',ds',rfl,k1,k2,k3⟩:=h2.yV r2;cases v2;obtain⟨its',w2,pt',_⟩:=I.tuple k1;simp only[dep] at hu';have e1:its.toArray.size=c.length:=by rw[List.size_toArray,<- w1.length,<- g2.length,<- g3.length]
   have e2:its'.toArray.size=c2.length:=by rw[List.size_toArray,<- w2.length,<- k2.length,<- k3.length]
   have q:=SeqAt.RcNeAt.tuples (A:=A) (e:=λ j=>eqT (c.getD j .zk) (c2.getD j .zk)) pt pt' (by omega) λ j h1 h2=>by
    have:=rX I p c c2 (A:=A.in1) (by show A.units+1+y7 c<cLine;omega) (by show A.units+1+y7 c2<cLine;omega) g3 k3 g2 k2 w1 w2 j (by simpa using h1) (by simpa using h2);simpa using this
   rw[e1,e2] at q;simp only[eqT,uZ];exact q
  | lst c2=>obtain⟨l',xs',ds',rfl,k1,k2,k3⟩:=h2.yY p r2;cases v2;obtain⟨its',w2,pl',_⟩:=I.list k1;simp only[dep] at hu';simp only[eqT,Bool.not_false,Bool.not_true];exact SeqAt.RcNeAt.tuple_list pt pl'.isList (by omega)
 | .lst c,u,A,d,e,x,y,a,b,hu,hu',h1,h2,r1,r2,v1,v2=>by
  obtain⟨l,xs,ds,rfl,g1,g2,g3⟩:=h1.yY p r1;cases v1;obtain⟨its,w1,pl,_⟩:=I.list g1;simp only[dep] at hu;cases u with
  | zY=>simp only[dep] at hu';omega
  | zk=>have q:=h2.flat r2;subst q;cases v2;simp only[eqT,Bool.not_false,Bool.not_true];exact SeqAt.RcNeAt.list_none pl.isList (by omega)
  | bl c2=>have q:=h2.flat r2;subst q;cases v2;simp only[eqT,Bool.not_false,Bool.not_true];exact SeqAt.RcNeAt.list_bool _ pl.isList (by omega)
  | int c2=>have q:=h2.flat r2;subst q;obtain⟨tk2,rfl⟩:=v2;simp only[eqT,Bool.not_false,Bool.not_true];exact SeqAt.RcNeAt.list_int _ _ pl.isList (by omega)
  | str c2=>have q:=h2.flat r2;subst q;obtain⟨tk2,rfl⟩:=v2;simp only[eqT,Bool.not_false,Bool.not_true];exact SeqAt.RcNeAt.list_str _ _ pl.isList (by omega)
  | tup c2=>obtain⟨l',xs',ds',rfl,k1,k2,k3⟩:=h2.yV r2;cases v2;obtain⟨its',w2,pt',_⟩:=I.tuple k1;simp only[dep] at hu';simp only[eqT,Bool.not_false,Bool.not_true];exact SeqAt.RcNeAt.list_tuple pl.isList pt' (by omega)
  | lst c2=>
   obtain⟨l',xs',ds',rfl,k1,k2,k3⟩:=h2.yY p r2;cases v2;obtain⟨its',w2,pl',_⟩:=I.list k1;simp only[dep] at hu';have e1:its.toArray.size=c.length:=by rw[List.size_toArray,<- w1.length,<- g2.length,<- g3.length]
   have e2:its'.toArray.size=c2.length:=by rw[List.size_toArray,<- w2.length,<- k2.length,<- k3.length]
   by_cases hsz:c.length=c2.length
   .have q:=SeqAt.RcNeAt.lists (A:=A) (e:=λ j=>eqT (c.getD j .zk) (c2.getD j .zk)) pl.isList pl'.isList (by rw[e1,e2];exact hsz) (by omega) λ j h1 h2=>by
     have:=rX I p c c2 (A:=A.in1) (by show A.units+1+y7 c<cLine;omega) (by show A.units+1+y7 c2<cLine;omega) g3 k3 g2 k2 w1 w2 j (by simpa using h1) (by simpa using h2);simpa using this
    rw[e1] at q;simp only[eqT,uZ];rw[<- hsz,Nat.min_self];simpa using q
   .have q:=SeqAt.RcNeAt.lists_lengths (A:=A) pl.isList pl'.isList (by rw[e1,e2];simpa using hsz) (by omega);simp only[eqT,uZ];have z:(c.length == c2.length)=false:=by simpa using hsz
    rw[z,Bool.and_false];exact q
 | .zY,u,A,d,e,x,y,a,b,hu,hu',h1,h2,r1,r2,v1,v2=>by simp only[dep] at hu;omega
end
def jZ (K:PySem.W.Frag) (neg:Bool):R2:=λ x y H Q=>∃ S d e t u,zg K H d x/\zg K H e y/\zN K H S/\Sn S t d/\Sn S u e/\dep t<=60/\dep u<=60/\Q (.bl (cond neg (!eqT t u) (eqT t u))) H
def vn (neg:Bool):yU:=λ x y S Q=>∃ t u,Sn S t x/\Sn S u y/\dep t<=60/\dep u<=60/\Q (.bl (cond neg (!eqT t u) (eqT t u))) S
theorem vn.mo {neg:Bool}:xP (vn neg):=λ _ _ _ _ _ hq ⟨t,u,a,b,c,d,h⟩=>⟨t,u,a,b,c,d,hq _ _ h⟩
theorem vn.fits {K:PySem.W.Frag}{neg:Bool}:xJ K (vn neg) (jZ K neg):=λ x y d e H S Q h1 h2 h3 ⟨t,u,a,b,c,c',h⟩=>⟨S,d,e,t,u,h1,h2,h3,a,b,c,c',h _ H (by simp only[zg]) (.refl H) h3⟩
section
variable {X:Cx}{a b:Expr}{ta tb:zC}{pos:Pos}
theorem cf (hu:X.A.units+64<cLine):yr X (compareOp .Eq) (jZ X.K false):=by
 intro pins s σ H x y v u Q I rx ry h;obtain⟨S,d,e,t,u',a1,a2,a3,a4,a5,a6,a7,q⟩:=h;exact XB I a3 t u' (A:=X.A) (by omega) (by omega) a4 a5 a1 a2 rx ry X.prog X.w X.xe _ ⟨.bl _,H,I,rfl,q⟩
theorem V3 (hu:X.A.units+64<cLine):yr X (compareOp .NotEq) (jZ X.K true):=by
 intro pins s σ H x y v u Q I rx ry h;obtain⟨S,d,e,t,u',a1,a2,a3,a4,a5,a6,a7,q⟩:=h;exact X9 I a3 t u' (A:=X.A) (by omega) (by omega) a4 a5 a1 a2 rx ry X.prog X.w X.xe _ ⟨.bl _,H,I,rfl,q⟩
theorem Vn {k:Nat}(hr:y9 k X.A) (ha:PD X a ta) (hb:PD X b tb):PD X (.Compare a [.Eq] [b] pos) (yw (vn false) ta tb):=iu (cf hr.units) vn.fits vn.mo ha hb (uS _)
theorem v7 {k:Nat}(hr:y9 k X.A) (ha:PD X a ta) (hb:PD X b tb):xN X (.Compare a [.Eq] [b] pos) (vL (yw (vn false) ta tb)):=sJ (cf hr.units) vn.fits vn.mo ha hb (uS _)
theorem lu {k:Nat}(hr:y9 k X.A) (ha:PD X a ta) (hb:PD X b tb):xN X (.Compare a [.NotEq] [b] pos) (vL (yw (vn true) ta tb)):=sJ (V3 hr.units) vn.fits vn.mo ha hb (uS _)
def dm (K:PySem.W.Frag) (neg:Bool):R2:=λ x y H Q=>∃ S d e u ts ds,zg K H d x/\zg K H e y/\zN K H S/\Sn S u d/\zZ e S=some ds/\zo S ts ds/\dep u<=60/\y7 ts<=60/\Q (.bl (cond neg (!(ts.any λ t=>eqT t u)) (ts.any λ t=>eqT t u))) H
def sU (neg:Bool):yU:=λ x y S Q=>∃ u ts ds,Sn S u x/\zZ y S=some ds/\zo S ts ds/\dep u<=60/\y7 ts<=60/\Q (.bl (cond neg (!(ts.any λ t=>eqT t u)) (ts.any λ t=>eqT t u))) S
theorem sU.mo {neg:Bool}:xP (sU neg):=λ _ _ _ _ _ hq ⟨u,ts,ds,a,b,c,d,e,h⟩=>⟨u,ts,ds,a,b,c,d,e,hq _ _ h⟩
theorem sU.fits {K:PySem.W.Frag}{neg:Bool}:xJ K (sU neg) (dm K neg):=λ x y d e H S Q h1 h2 h3 ⟨u,ts,ds,a,b,c,c',c2,h⟩=>⟨S,d,e,u,ts,ds,h1,h2,h3,a,b,c,c',c2,h _ H (by simp only[zg]) (.refl H) h3⟩
open Classical in
noncomputable def tp (its:List Value) (ts:List T) (u:T) (v:Value):Bool:=if h:∃ j,its[j]?=some v then eqT (ts.getD (Classical.choose h) .zk) u else false
theorem gM {pins:List (Addr×Obj)}{σ:St}{H:Hp}{s:Shared}{S:SS}(I:Inv X pins σ H s) (p:zN X.K H S) {ts:List T}{ds:List D}{xs:List V}{its:List Value}(h1:zo S ts ds) (h2:zq X.K H ds xs) (h3:Vals xs its) (u:T) {j:Nat}{v:Value}(hj:its[j]?=some v):
  tp its ts u v=eqT (ts.getD j .zk) u:=by
 have h:∃ j,its[j]?=some v:=⟨j,hj⟩
 unfold tp;rw[dif_pos h];have hc:=Classical.choose_spec h;have lt:∀ i,its[i]?=some v->i<ts.length:=λ i hi=>by
  rw[h1.length,h2.length,h3.length];exact (List.getElem?_eq_some_iff.mp hi).1
 obtain⟨c1,e1,s1⟩:=h1.get (lt _ hc);obtain⟨c2,e2,s2⟩:=h1.get (lt _ hj);obtain⟨x1,f1,r1⟩:=h2.get e1;obtain⟨x2,f2,r2⟩:=h2.get e2;obtain⟨v1,g1,q1⟩:=h3.get f1;obtain⟨v2,g2,q2⟩:=h3.get f2;rw[hc] at g1;cases g1;rw[hj] at g2;cases g2;have hx:=q1.inj q2;subst hx;rw[mM I p _ _ s1 s2 r1 r2]
theorem aZ {pins:List (Addr×Obj)}{σ:St}{H:Hp}{s:Shared}{S:SS}(I:Inv X pins σ H s) (p:zN X.K H S) {ts:List T}{ds:List D}{xs:List V}{its:List Value}(h1:zo S ts ds) (h2:zq X.K H ds xs) (h3:Vals xs its) (u:T):its.any (tp its ts u)=ts.any λ t=>eqT t u:=by
 have hl:ts.length=its.length:=by rw[h1.length,h2.length,h3.length]
 rw[Bool.eq_iff_iff,List.any_eq_true,List.any_eq_true];constructor
 .rintro⟨v,hv,h⟩;obtain⟨j,hj,rfl⟩:=List.mem_iff_getElem.mp hv;rw[gM I p h1 h2 h3 u (j:=j) (by simp[hj])] at h;have hj':j<ts.length:=by omega
  exact⟨ts[j],List.getElem_mem hj',by simpa [hj'] using h⟩
 .rintro⟨t,ht,h⟩;obtain⟨j,hj,rfl⟩:=List.mem_iff_getElem.mp ht;have hj':j<its.length:=by omega
  exact⟨its[j],List.getElem_mem hj',by rw[gM I p h1 h2 h3 u (j:=j) (by simp[hj'])];simpa [hj] using h⟩
theorem a_ {pins:List (Addr×Obj)}{σ:St}{H:Hp}{s:Shared}{S:SS}(I:Inv X pins σ H s) (p:zN X.K H S) {ts:List T}{ds:List D}{xs:List V}{its:List Value}(h1:zo S ts ds) (h2:zq X.K H ds xs) (h3:Vals xs its) {u:T}{d:D}{x:V}{v:Value}(hu:Sn S u d) (hd:zg X.K H d x) (hx:RelV x v) {A:Around}(b1:A.units+y7 ts<cLine) (b2:A.units+dep u<cLine) {y:Value}(hy:y∈its):
  SeqAt.EqAt A s y v (tp its ts u y):=by
 obtain⟨j,hj,rfl⟩:=List.mem_iff_getElem.mp hy;have hjt:j<ts.length:=by rw[h1.length,h2.length,h3.length];exact hj
 rw[gM I p h1 h2 h3 u (j:=j) (by simp[hj])];obtain⟨c1,e1,s1⟩:=h1.get hjt;obtain⟨x1,f1,r1⟩:=h2.get e1;obtain⟨v1,g1,q1⟩:=h3.get f1;have:its[j]=v1:=by
  have:=List.getElem?_eq_some_iff.mp g1;exact this.2
 rw[this];have:=ag hjt;exact bP I p _ u (A:=A) (by omega) b2 s1 hu r1 hd q1 hx
theorem VC (hu:X.A.units+64<cLine):yr X (compareOp .In) (dm X.K false):=by
 intro pins s σ H x y v w Q I rx ry h;obtain⟨S,d,e,u,ts,ds,a1,a2,a3,a4,a5,a6,a7,a8,q⟩:=h;obtain⟨l,xs,rfl,g1,g2⟩:=zZ.sq a2 a3 a5;cases ry;rcases g1 with g1 | g1
 .obtain⟨its,w1,pl,_⟩:=I.list g1;refine SeqAt.in_listAt (tp its ts u) pl.isList (λ y hy=>a_ I a3 a6 g2 w1 a4 a1 rx (A:=X.A.in1) (by show X.A.units+1+_<_;omega) (by show X.A.units+1+_<_;omega) (by simpa using hy)) ⟨.bl _,H,I,rfl,?_⟩;rw[show its.toArray.any (tp its ts u)=its.any (tp its ts u) by simp,aZ I a3 a6 g2 w1];exact q
 .obtain⟨its,w1,pt,_⟩:=I.tuple g1;refine SeqAt.in_tupleAt (tp its ts u) pt (λ y hy=>a_ I a3 a6 g2 w1 a4 a1 rx (A:=X.A.in1) (by show X.A.units+1+_<_;omega) (by show X.A.units+1+_<_;omega) (by simpa using hy)) ⟨.bl _,H,I,rfl,?_⟩;rw[show its.toArray.any (tp its ts u)=its.any (tp its ts u) by simp,aZ I a3 a6 g2 w1];exact q
theorem WS {k:Nat}(hr:y9 k X.A) (ha:PD X a ta) (hb:PD X b tb) (hm:behindInMarks .In b=false:=by rfl):xN X (.Compare a [.In] [b] pos) (vL (yw (sU false) ta tb)):=sJ (VC hr.units) sU.fits sU.mo ha hb hm
end
end L3
namespace L2
open PySem PySem.Spec PyProof.Rows
section
variable {κ:Type} [DecidableEq κ]
noncomputable def w6 (kvs:List (κ × V)) (k:κ):Option V:=(kvs.find? λ kv=>decide (kv.1=k)).map (·.2)
noncomputable def putK (kvs:List (κ × V)) (k:κ) (v:V):List (κ × V):=
 if (kvs.any λ kv=>decide (kv.1=k))=true then kvs.map (λ kv=>if kv.1=k then (kv.1,v) else kv) else kvs++[(k,v)]
theorem kZ {p:κ × V}{r:List (κ × V)}{k:κ}(e:p.1=k):w6 (p::r) k=some p.2:=by simp[w6,List.find?_cons,e]
theorem k_ {p:κ × V}{r:List (κ × V)}{k:κ}(e:¬ p.1=k):w6 (p::r) k=w6 r k:=by simp[w6,List.find?_cons,e]
theorem fZ (k:κ):∀ kvs:List (κ × V),(kvs.any λ kv=>decide (kv.1=k))=(w6 kvs k).isSome
 | []=>rfl
 | p::r=>by
  rw[List.any_cons];by_cases e:p.1=k
  .simp only[kZ e,decide_eq_true e,Bool.true_or,Option.isSome_some]
  .rw[k_ e,decide_eq_false e,Bool.false_or];exact fZ k r
theorem cI (kvs:List (κ × V)) (k:κ) (v:V):(putK kvs k v).length<=kvs.length+1:=by
 unfold putK;split
 .rw[List.length_map];omega
 .rw[List.length_append,List.length_cons,List.length_nil];omega
theorem uv.TJ {o:Option V}{u:Option Value}(r:uv o u):o.isSome=u.isSome:=by
 cases o with
 | none=>cases u with
  | none=>rfl
  | some _=>exact (show False from r).elim
 | some _=>cases u with
  | none=>exact (show False from r).elim
  | some _=>rfl
theorem uv.getD {o:Option V}{u:Option Value}{d:V}{d':Value}(r:uv o u) (rd:RelV d d'):RelV (o.getD d) (u.getD d'):=by
 cases o with
 | none=>cases u with
  | none=>exact rd
  | some _=>exact (show False from r).elim
 | some _=>cases u with
  | none=>exact (show False from r).elim
  | some _=>exact r
theorem KV.val {kvs:List (κ × V)}{vs:List (κ × Value)}(r:KV kvs vs) (k:κ):uv (w6 kvs k) (valueAt vs k):=by
 unfold KV at r
 induction r with
 | nil=>exact True.intro
 | @cons p q ps qs h t ih=>
  obtain⟨h1,h2⟩:=h;by_cases e:p.1=k
  .have e':q.1=k:=h1.symm.trans e;have b:valueAt (q::qs) k=some q.2:=by simp[valueAt,List.find?_cons,e']
   rw[kZ e,b];exact h2
  .have e':¬ q.1=k:=λ z=>e (h1.trans z);have b:valueAt (q::qs) k=valueAt qs k:=by simp[valueAt,List.find?_cons,e']
   rw[k_ e,b];exact ih
theorem KV.any {kvs:List (κ × V)}{vs:List (κ × Value)}(r:KV kvs vs) (k:κ):(kvs.any λ kv=>decide (kv.1=k))=vs.any λ kv=>decide (kv.1=k):=by
 unfold KV at r
 induction r with
 | nil=>rfl
 | cons h t ih=>rw[List.any_cons,List.any_cons,ih,h.1]
theorem KV.uP {kvs:List (κ × V)}{vs:List (κ × Value)}(r:KV kvs vs) (k:κ) {y:V}{u:Value}(ry:RelV y u):
  KV (kvs.map λ kv=>if kv.1=k then (kv.1,y) else kv) (vs.map λ kv=>if kv.1=k then (kv.1,u) else kv):=by
 unfold KV at r ⊢
 induction r with
 | nil=>exact .nil
 | @cons p q ps qs h t ih=>
  rw[List.map_cons,List.map_cons];refine .cons ?_ ih;obtain⟨h1,h2⟩:=h;by_cases e:p.1=k
  .rw[if_pos e,if_pos (h1.symm.trans e)];exact⟨h1,ry⟩
  .rw[if_neg e,if_neg (λ z=>e (h1.trans z))];exact⟨h1,h2⟩
theorem KV.put {kvs:List (κ × V)}{vs:List (κ × Value)}(r:KV kvs vs) (k:κ) {y:V}{u:Value}(ry:RelV y u):KV (putK kvs k y) (stored vs k u):=by
 unfold putK stored;rw[r.any k];by_cases e:(vs.any λ kv=>decide (kv.1=k))=true
 .rw[if_pos e,if_pos e];exact r.uP k ry
 .rw[if_neg e,if_neg e];exact Paired.snoc r ⟨rfl,ry⟩
theorem KV.length {kvs:List (κ × V)}{vs:List (κ × Value)}(r:KV kvs vs):kvs.length=vs.length:=Paired.length r
end
theorem lS {P:Program}{w:World}{k:Key}{u:Value}(r:RelV (kV k) u):(wK P w).is k u=true:=by
 cases k with
 | inl i=>obtain⟨t,e⟩:=(show ∃ t,u=Value.int i t from r);subst e;exact UU P w i t
 | inr x=>obtain⟨t,e⟩:=(show ∃ t,u=Value.str x t from r);subst e;exact UT P w x t
theorem cX {P:Program}{w:World}:∀ {ks:List Key}{us:List Value},Vals (ks.map kV) us->ItemsAre (wK P w) ks us
 | [],_,r=>by rw[List.map_nil] at r;cases r;exact .nil
 | k::ks,_,r=>by
  rw[List.map_cons] at r;cases r with
  | cons h t=>exact .cons (lS h) (cX t)
abbrev KT (H:Hp):List (List Key×V)->List (List Key×Addr×Value)->Prop:=Paired λ p q=>p.1=q.1/\H q.2.1=some (.tup (p.1.map kV))/\RelV p.2 q.2.2
theorem KT.val {H:Hp}{kvs:List (List Key×V)}{xs:List (List Key×Addr×Value)}(r:KT H kvs xs) (k:List Key):uv (w6 kvs k) ((atKey xs k).map (·.2)):=by
 induction r with
 | nil=>exact True.intro
 | @cons p q ps qs h t ih=>
  obtain⟨h1,_,h2⟩:=h;by_cases e:p.1=k
  .have e':q.1=k:=h1.symm.trans e;have b:atKey (q::qs) k=some q.2:=by simp[atKey,List.find?_cons,e']
   rw[kZ e,b];exact h2
  .have e':¬ q.1=k:=λ z=>e (h1.trans z);have b:atKey (q::qs) k=atKey qs k:=by simp[atKey,List.find?_cons,e']
   rw[k_ e,b];exact ih
theorem KT.uP {H:Hp}{kvs:List (List Key×V)}{xs:List (List Key×Addr×Value)}(r:KT H kvs xs) (k:List Key) {y:V}{u:Value}(ry:RelV y u):
  KT H (kvs.map λ kv=>if kv.1=k then (kv.1,y) else kv) (xs.map (putAt k u)):=by
 induction r with
 | nil=>exact .nil
 | @cons p q ps qs h t ih=>
  rw[List.map_cons,List.map_cons];refine .cons ?_ ih;obtain⟨h1,h2,h3⟩:=h;unfold putAt;by_cases e:p.1=k
  .rw[if_pos e,if_pos (h1.symm.trans e)];exact⟨h1,h2,ry⟩
  .rw[if_neg e,if_neg (λ z=>e (h1.trans z))];exact⟨h1,h2,h3⟩
theorem KT.put {H:Hp}{kvs:List (List Key×V)}{xs:List (List Key×Addr×Value)}(r:KT H kvs xs) (k:List Key) {b:Addr}{y:V}{u:Value}(hb:H b=some (.tup (k.map kV))) (ry:RelV y u):
  KT H (putK kvs k y) (storedH xs k b u):=by
 have e:(kvs.any λ kv=>decide (kv.1=k))=(atKey xs k).isSome:=by
  rw[fZ,(r.val k).TJ,Option.isSome_map]
 unfold putK storedH;rw[e];by_cases q:(atKey xs k).isSome=true
 .rw[if_pos q,if_pos q];exact r.uP k ry
 .rw[if_neg q,if_neg q];exact Paired.snoc r ⟨rfl,hb,ry⟩
theorem KT.keeps {H H':Hp}{kvs:List (List Key×V)}{xs:List (List Key×Addr×Value)}(r:KT H kvs xs) (ht:∀ b ys,H b=some (.tup ys)->H' b=some (.tup ys)):KT H' kvs xs:=
 Paired.lN r λ _ _ z=>⟨z.1,ht _ _ z.2.1,z.2.2⟩
section
variable {P:Program}{w:World}{H:Hp}{h:Heap}{a:Addr}
theorem de {u:HO}(ok:xb P w H h) (e:Rd H a u):xm P w H h a u:=e.ok ok
theorem p7 {kvs:List (Key×V)}(ok:xb P w H h) (e:Rd H a (.dK kvs)):kvs.length<=sizeLine/\(a == sysModules)=false/\∃ vs,KV kvs vs/\h.DictOf (wK P w) a vs:=
 show xm P w H h a (.dK kvs) from de ok e
theorem Rq {kvs:List (Key×V)}(ok:xb P w H h) (e:H a=some (.dK kvs)):kvs.length<=sizeLine/\(a == sysModules)=false/\∃ vs,KV kvs vs/\h.DictOf (wK P w) a vs:=p7 ok (.inl e)
theorem lR {ks:List Key}(ok:xb P w H h) (e:H a=some (.tup (ks.map kV))):(tupleKind (wK P w)).is h ks a:=by
 obtain⟨_,its,r,o,h1,h2,n,h3⟩:=(show xm P w H h a (.tup (ks.map kV)) from ok a _ e)
 exact⟨o,its.toArray,n,h1,h2,h3,by simpa using cX r⟩
theorem nH {kvs:List (List Key×V)}(ok:xb P w H h) (e:Rd H a (.dT kvs)):kvs.length<=sizeLine/\(a == sysModules)=false/\
  ∃ xs,KT H kvs xs/\h.DictOfH (tupleKind (wK P w)) a xs:=by
 obtain⟨z,y,xs,r,o,es,ep,h1,h2,h3,h4,h5⟩:=(show xm P w H h a (.dT kvs) from de ok e)
 refine⟨z,y,xs,r,o,es,ep,h1,h2,h3,h4,λ x hx=>?_,h5⟩;have all:∀ {l:List (List Key×V)}{m:List (List Key×Addr×Value)},KT H l m->∀ x∈m,(tupleKind (wK P w)).is h x.1 x.2.1:=by
  intro l m q
  induction q with
  | nil=>intro x hx;exact nomatch hx
  | @cons p q ps qs hq t ih=>
   intro x hx;rcases List.mem_cons.mp hx with e | hx
   .subst e;exact lR ok (by rw[<- hq.1];exact hq.2.1)
   .exact ih x hx
 exact all r x hx
theorem Rl {kvs:List (List Key×V)}(ok:xb P w H h) (e:H a=some (.dT kvs)):kvs.length<=sizeLine/\(a == sysModules)=false/\
  ∃ xs,KT H kvs xs/\h.DictOfH (tupleKind (wK P w)) a xs:=nH ok (.inl e)
end
def sk (H:Hp) (a:Addr) (y:V) (r:Option V):Prop:=
 (∃ kvs k,Rd H a (.dK kvs)/\y=kV k/\r=w6 kvs k)\/∃ kvs k b,Rd H a (.dT kvs)/\y=.ref b/\H b=some (.tup (k.map kV))/\r=w6 kvs k
def mG (H:Hp) (a:Addr) (y v:V) (H':Hp):Prop:=
 (∃ kvs k,H a=some (.dK kvs)/\y=kV k/\kvs.length<sizeLine/\H'=upd H a (.dK (putK kvs k v)))\/
 ∃ kvs k b,H a=some (.dT kvs)/\y=.ref b/\H b=some (.tup (k.map kV))/\kvs.length<sizeLine/\H'=upd H a (.dT (putK kvs k v))
theorem sk.k {H:Hp}{a:Addr}{kvs:List (Key×V)}{k:Key}(e:H a=some (.dK kvs)):sk H a (kV k) (w6 kvs k):=.inl ⟨kvs,k,.inl e,rfl,rfl⟩
theorem mG.k {H:Hp}{a:Addr}{kvs:List (Key×V)}{k:Key}{v:V}(e:H a=some (.dK kvs)) (hl:kvs.length<sizeLine):mG H a (kV k) v (upd H a (.dK (putK kvs k v))):=.inl ⟨kvs,k,e,rfl,hl,rfl⟩
section
variable {X:Cx}{pins:List (Addr×Obj)}{σ:St}{H:Hp}{s:Shared}{a:Addr}{y v:V}{u r:Value}{o:Option V}{A:Around}{E:Value->Shared->Prop}
theorem Inv.big (I:Inv X pins σ H s):sysModules<s.heap.objs.size:=by
 have h:mainGlobals<s.heap.objs.size:=(I.mod.glob.keeps I.bk).lt;exact Nat.lt_trans (by decide) h
theorem Rz {Q:Value->Shared->Prop}(hu:A.units+1<cLine) (I:Inv X pins σ H s) (g:sk H a y (some v)) (ry:RelV y u) (h:∀ w' s',Inv X pins σ H s'->RelV v w'->Q w' s'):
  wpAny (model X.prog X.w) A (getItem (.ref a) u) Q E s:=by
 rcases g with ⟨kvs,k,e,ey,l⟩ | ⟨kvs,k,b,e,ey,eb,l⟩
 .subst ey;obtain⟨z,hd,vs,rel,dd⟩:=p7 I.zE e;obtain⟨w',hw,rw'⟩:=uv.some_of (v:=v) (o:=valueAt vs k) (by rw[l];exact rel.val k);exact wpAny_getItem_of (lS ry) dd.mapOf hw (h w' _ (I.tok _) rw')
 .subst ey;cases (show u=Value.ref b from ry);obtain⟨z,hd,xs,rel,dd⟩:=nH I.zE e;obtain⟨w',hw,rw'⟩:=uv.some_of (v:=v) (o:=(atKey xs k).map (·.2)) (by rw[l];exact rel.val k);obtain⟨p,hp,qZ⟩:=zOm hw;refine wpAny_getItem_heap (tupleKind_room_in1 hu) (lR I.zE eb) dd hp ?_;rw[qZ];exact h w' _ (I.tok _) rw'
theorem aj {h':Heap}{t':Nat}{ob:HO}(I:Inv X pins σ H s) (mu:ml (H a)) (hs:Heap.SameBut a s.heap h') (he:∃ q,h'.get? a=some q) (new:xm X.prog X.w (upd H a ob) h' a ob):
  Inv X pins σ (upd H a ob) { s with heap:=h',toks:=t' }:=
 I.write (x:=a) (e:=a) mu (.inl rfl) (λ b q hb z=>(hs.2 b hb).trans z) he new
theorem Rr {P:Program}{w:World}{H':Hp}{h':Heap}{kvs:List (Key×V)}{vs:List (Key×Value)}(z:kvs.length<=sizeLine) (hd:(a == sysModules)=false) (rel:KV kvs vs) (dd:h'.DictOf (wK P w) a vs):
  xm P w H' h' a (.dK kvs):=⟨z,hd,vs,rel,dd⟩
theorem Rx {H':Hp}{Q:Unit->Shared->Prop}(hu:A.units+1<cLine) (I:Inv X pins σ H s) (g:mG H a y v H') (ry:RelV y u) (rv:RelV v r) (h:∀ s',Inv X pins σ H' s'->Q () s'):
  wpAny (model X.prog X.w) A (setItem (.ref a) u r) Q E s:=by
 rcases g with ⟨kvs,k,e,ey,l,eH⟩ | ⟨kvs,k,b,e,ey,eb,l,eH⟩
 .subst ey eH;obtain⟨z,hd,vs,rel,dd⟩:=Rq I.zE e;have hz:vs.length<=sizeLine:=by rw[<- rel.length];exact z
  have hl:(putK kvs k v).length<=sizeLine:=by have:=cI kvs k v;omega
  refine wpAny_setItem_pairs (hsz:=hz) (lS ry) dd λ h' dd' hs=>h _ ?_;have he:∃ q,h'.get? a=some q:=let ⟨q,_,_,hq,_⟩:=dd';⟨q,hq⟩
  exact aj I (by rw[e];exact True.intro) hs he (Rr hl hd (rel.put k rv) dd')
 .subst ey eH;cases (show u=Value.ref b from ry);obtain⟨z,hd,xs,rel,dd⟩:=Rl I.zE e;have hz:xs.length<=sizeLine:=by rw[<- Paired.length rel];exact z
  have hl:(putK kvs k v).length<=sizeLine:=by have:=cI kvs k v;omega
  refine wpAny_setItem_heap (hsz:=hz) (tupleKind_room_in1 hu) (lR I.zE eb) dd λ h' dd' hs=>h _ ?_;obtain⟨q,es,ep,hq,h2,h3,h4,_,h5⟩:=dd';refine aj I (by rw[e];exact True.intro) hs ⟨q,hq⟩ ⟨hl,hd,_,(rel.put k eb rv).keeps λ c ys ec=>?_,q,es,ep,hq,h2,h3,h4,h5⟩;rw[yM (oU ec e (λ z=>nomatch z))];exact ec
end
section
variable {X:Cx}{pins:List (Addr×Obj)}{σ:St}{H:Hp}{s:Shared}{a:Addr}{kvs:List (Key×V)}{k:Key}{u:Value}{A:Around}{E:Value->Shared->Prop}
theorem Ry {Q:Value->Shared->Prop}(I:Inv X pins σ H s) (e:Rd H a (.dK kvs)) (h:∀ t s',Inv X pins σ H s'->Q (.int kvs.length t) s'):wpAny (model X.prog X.w) A (call (.builtin "len") [.ref a]) Q E s:=by
 obtain⟨z,hd,vs,rel,dd⟩:=p7 I.zE e;refine call_len_dict hd dd (by rw[<- rel.length];rw[sizeLine_eq] at z;omega) ?_;rw[<- rel.length];exact h _ _ (I.tok _)
end
def gT (i:Expr):Prop:=∀ ov iv,subscripted i false ov iv=operate [ov,iv] (getItem ov iv)
theorem YV {prog:Program}{w:World}{A:Around}{E:Value->Shared->Prop}{s:Shared}{env:Env}{value slice:Expr}{pos:Pos}{T id:String}{Q:Value->Shared->Prop}
  (hl:typeLookup (.type T) "__getitem__"=pure (some (.builtin id))) (hs:gT slice)
  (h:wpAny (model prog w) A (eval value env) (λ o s₁=>wpAny (model prog w) A (eval slice env) (λ i s₂=>s₂.TypeIs o T/\wpAny (model prog w) A (getItem o i) Q E s₂) E s₁) E s):
  wpAny (model prog w) A (eval (.Subscript value slice pos) env) Q E s:=by
 refine Subscript_ (wpAny_mono h (λ o s₁ h₁=>wpAny_mono h₁ (λ i s₂ h₂=>?_) λ _ _ x=>x) λ _ _ x=>x);obtain⟨hT,h₂⟩:=h₂;unfold subscriptTail;refine zWb ?_;rw[getitemInPython_of_ne hT.not_modules];refine zWb (wpAny_specialOf hT hl ?_);have fin:wpAny (model prog w) A (subscripted slice false o i) (λ r s₃=>wpAny (model prog w) A (letTemporaryGo value o r >>= λ _=>pure r) Q E s₃) E s₂:=by
  rw[hs o i];exact wpAny_operating (wpAny_mono h₂ (λ r s₃ h₃=>zWb (wpAny_letTemporaryGo (wpAny_pure h₃))) λ _ _ x=>x)
 first
  | exact wpAny_pure (zWb fin)
  | exact zWb (wpAny_pure (zWb fin))
  | exact zWb fin
theorem Ru {X:Cx}{pins:List (Addr×Obj)}{σ:St}{H:Hp}{s:Shared}{a:Addr}{y:V}{o:Option V}(I:Inv X pins σ H s) (g:sk H a y o):s.TypeIs (.ref a) "dict":=by
 rcases g with ⟨kvs,k,e,_,_⟩ | ⟨kvs,k,b,e,_,_,_⟩
 .obtain⟨_,_,vs,_,dd⟩:=p7 I.zE e;exact dd.typeIs
 .obtain⟨_,_,xs,_,dd⟩:=nH I.zE e;exact dd.typeIs
def YS (td ty:TE):TE:=fun σ H Q=>td σ H λ x H1=>ty σ H1 λ y H2=>∃ a v,x=.ref a/\sk H2 a y (some v)/\Q v H2
def Xz (td ty tv:TE):TS:=λ D σ H=>tv σ H λ v H1=>td σ H1 λ x H2=>ty σ H2 λ y H3=>∃ a H4,x=.ref a/\mG H3 a y v H4/\D.nx σ H4
section
variable {X:Cx}{o i e value:Expr}{pos pos' tpos:Pos}{td ty tv:TE}
theorem WH (hu:X.A.units+1<cLine) (ho:PE X o td) (hi:PE X i ty) (hs:gT i):PE X (.Subscript o i pos) (YS td ty):=by
 intro pins s σ H Q I h;refine YV PySem.F.slot_dict_getitem.lookup hs (zK (ho pins s σ H _ I h) λ u s1 ⟨x,H1,I1,rx,q1⟩=>zK (hi pins s1 σ H1 _ I1 q1) λ iv s2 ⟨y,H2,I2,ry,a,v,ex,g,q2⟩=>?_);subst ex;obtain rfl:u=Value.ref a:=rx;exact⟨Ru I2 g,Rz hu I2 g ry λ w' s3 I3 rw'=>⟨v,H2,I3,rw',q2⟩⟩
theorem Wd (hu:X.A.units+1<cLine) (ho:PE X o td) (hi:PE X i ty) (hv:PE X value tv) (hs:swapsWith value (some (.Subscript o i pos')) pos.line X.env=pure false):
  PS X (.Assign [.Subscript o i pos'] value pos) (Xz td ty tv):=by
 intro pins s σ H D I h;refine wpAny_Assign_Subscript (zK (hv pins s σ H _ I h) λ r s1 ⟨v,H1,I1,rv,q1⟩=>zK (ho pins s1 σ H1 _ I1 q1) λ u s2 ⟨x,H2,I2,rx,q2⟩=>zK (hi pins s2 σ H2 _ I2 q2) λ iv s3 ⟨y,H3,I3,ry,a,H4,ex,g,q3⟩=>?_) hs;subst ex;obtain rfl:u=Value.ref a:=rx;exact Rx hu I3 g ry rv λ s4 I4=>⟨σ,H4,I4,q3⟩
end
theorem Rt {P:Program}{w:World}{H:Hp}(h:Heap) (hb:sysModules<h.objs.size):xm P w H (h.push { cls:=.type "dict",data:=.dict #[] }) h.objs.size (.dK []):=
 ⟨Nat.zero_le _,beq_eq_false_iff_ne.mpr (Ne.symm (Nat.ne_of_lt hb)),[],.nil,Heap.DictOf.new h⟩
def YQ:TE:=λ _ H Q=>∀ p,H p=none->Q (.ref p) (upd H p (.dK []))
section
variable {X:Cx}{pos:Pos}
theorem WE:PE X (.Dict [] [] pos) YQ:=λ pins s σ H Q I h=>
 wpAny_Dict_empty ⟨.ref s.heap.objs.size,_,I.laid (a:=s.heap.objs.size) (o:=.dK []) (t':=s.toks) (λ _ _ q=>zHp _ q) (Nat.le_refl _) (Rt s.heap I.big),rfl,h _ (I.zE.fresh (Nat.le_refl _))⟩
end
structure M2 (X:Cx) (o:Expr) (m:Str) (apos:Pos) (e f:Expr) (cpos:Pos):Prop where
 base:attributeBase o m X.env (eval o X.env)=eval o X.env
 nB:((backTo cpos (starEach [e,f] X.env)).all (λ x=>!x.1)&&(backToKw cpos (keywordEach [] X.env)).all (λ x=>x.1.isSome)
  && decide (([e,f]:List Expr).length+([]:List Keyword).length+(if ([]:List Keyword).isEmpty then 0 else 1)<30))=true
 line:(apos.endLine == cpos.line)=true
 trees:backTo cpos (starEach [e,f] X.env)=[(false,eval e X.env),(false,eval f X.env)]
def Zm (H:Hp) (a:Addr):Prop:=(∃ kvs,Rd H a (.dK kvs))\/∃ kvs,Rd H a (.dT kvs)
theorem TQ {X:Cx}{pins:List (Addr×Obj)}{σ:St}{H:Hp}{s:Shared}{a:Addr}(I:Inv X pins σ H s) (d:Zm H a):
  s.TypeIs (.ref a) "dict"/\(∀ b,Value.ref a=.ref b->∃ ob,s.heap.get? b=some ob/\ob.dict=none)/\(a == sysModules)=false:=by
 rcases d with ⟨kvs,e⟩ | ⟨kvs,e⟩
 .obtain⟨_,hd,vs,_,dd⟩:=p7 I.zE e;refine⟨dd.typeIs,λ b q=>?_,hd⟩;cases q;obtain⟨ob,_,_,h1,h2,_⟩:=dd;exact⟨ob,h1,h2.2.1⟩
 .obtain⟨_,hd,xs,_,dd⟩:=nH I.zE e;refine⟨dd.typeIs,λ b q=>?_,hd⟩;cases q;obtain⟨ob,_,_,h1,h2,_⟩:=dd;exact⟨ob,h1,h2.2.1⟩
section
variable {X:Cx}{pins:List (Addr×Obj)}{σ:St}{H:Hp}{s:Shared}{a:Addr}{y d:V}{u r:Value}{o:Option V}{A:Around}{E:Value->Shared->Prop}
theorem R0 {Q:Value->Shared->Prop}(hu:A.units+1<cLine) (I:Inv X pins σ H s) (g:sk H a y o) (ry:RelV y u) (rd:RelV d r) (h:∀ w' s',Inv X pins σ H s'->RelV (o.getD d) w'->Q w' s'):
  wpAny (model X.prog X.w) A (call (.builtin "dict.get") [.ref a,u,r]) Q E s:=by
 rcases g with ⟨kvs,k,e,ey,l⟩ | ⟨kvs,k,b,e,ey,eb,l⟩
 .subst ey;obtain⟨z,hd,vs,rel,dd⟩:=p7 I.zE e;refine call_meetsIn PySem.F.slot_dict_get dd.typeIs PySem.F.entry_dict_get (PySem.F.args_dict_get_3 _ _ _) (meets_dict_get_default (wK X.prog X.w) a (lS ry) hd r) ⟨_,dd.mapOf,h _ _ (I.tok _) ?_⟩;rw[l];exact (rel.val k).getD rd
 .subst ey;cases (show u=Value.ref b from ry);obtain⟨z,hd,xs,rel,dd⟩:=nH I.zE e;refine call_meetsIn PySem.F.slot_dict_get dd.typeIs PySem.F.entry_dict_get (PySem.F.args_dict_get_3 _ _ _) (meetsH_dict_get_default (tupleKind (wK X.prog X.w)) a b hd r) ⟨tupleKind_room_in1 hu,k,xs,lR I.zE eb,dd,h _ _ (I.tok _) ?_⟩;rw[l];exact (rel.val k).getD rd
end
def YR (td ty tx:TE):TE:=fun σ H Q=>td σ H λ x H1=>∃ a,x=.ref a/\Zm H1 a/\ty σ H1 λ y H2=>tx σ H2 λ z H3=>∃ o,sk H3 a y o/\Q (o.getD z) H3
section
variable {X:Cx}{o e f:Expr}{apos cpos:Pos}{td ty tx:TE}
theorem WG (hu:X.A.units+1<cLine) (ho:PE X o td) (he:PE X e ty) (hf:PE X f tx) (m:M2 X o "get" apos e f cpos):PE X (.Call (.Attribute o "get" apos) [e,f] [] cpos) (YR td ty tx):=by
 intro pins s σ H Q I h;refine wpAny_Call_method m.base m.nB m.line PySem.F.plainAttrs_dict PySem.F.slot_dict_get PySem.F.type_dict_get (zK (ho pins s σ H _ I h) λ u s1 ⟨x,H1,I1,rx,a,ex,d,q1⟩=>?_);subst ex;obtain rfl:u=Value.ref a:=rx;obtain⟨t1,t2,_⟩:=TQ I1 d;refine⟨t1,t2,?_⟩;rw[m.trees];refine Calls.callWith_builtin rfl (Calls.evalArgs_plain (Calls.spliced_cons (zK (he pins s1 σ H1 _ I1 q1) λ iv s2 ⟨y,H2,I2,ry,q2⟩=>
  Calls.spliced_cons (zK (hf pins s2 σ H2 _ I2 q2) λ fv s3 ⟨z,H3,I3,rz,ov,g,q3⟩=>Calls.spliced_nil ?_))))
 exact R0 hu I3 g ry rz λ w' s4 I4 rw'=>⟨_,H3,I4,rw',q3⟩
end
section
variable {X:Cx}{pins:List (Addr×Obj)}{σ:St}{H:Hp}{s:Shared}{a:Addr}{kvs:List (Key×V)}{A:Around}{E:Value->Shared->Prop}
end
section
variable {X:Cx}{pins:List (Addr×Obj)}{σ:St}{H:Hp}{s:Shared}{a:Addr}{y:V}{u:Value}{A:Around}{E:Value->Shared->Prop}
end
end L2
namespace L3
open PySem PySem.Spec L2
open PyProof.Rows hiding St
noncomputable def vV (kvs:List (Key×D)) (k:Key):Option D:=(kvs.find? λ kv=>decide (kv.1=k)).map (·.2)
noncomputable def putD (kvs:List (Key×D)) (k:Key) (v:D):List (Key×D):=
 if (kvs.any λ kv=>decide (kv.1=k))=true then kvs.map (λ kv=>if kv.1=k then (kv.1,v) else kv) else kvs++[(k,v)]
section
variable {K:PySem.W.Frag}{H:Hp}
theorem xj.val:∀ {kvs:List (Key×D)}{vs:List (Key×V)},xj K H kvs vs->∀ k,(vV kvs k=none/\w6 vs k=none)\/∃ d v,vV kvs k=some d/\w6 vs k=some v/\zg K H d v
 | _,_,.nil,k=>.inl ⟨rfl,rfl⟩
 | (a,d)::kvs,(b,v)::vs,.cons ⟨e,r⟩ t,k=>by
  have e':a=b:=e;subst e';by_cases h:a=k
  .subst h;exact .inr ⟨d,v,by simp[vV],by simp[w6],r⟩
  .rcases xj.val t k with ⟨h1,h2⟩ | ⟨d',v',h1,h2,h3⟩
   .exact .inl ⟨by simpa [vV,h] using h1,by simpa [w6,h] using h2⟩
   .exact .inr ⟨d',v',by simpa [vV,h] using h1,by simpa [w6,h] using h2,h3⟩
theorem xj.any {kvs:List (Key×D)}{vs:List (Key×V)}(h:xj K H kvs vs) (k:Key):(kvs.any λ kv=>decide (kv.1=k))=vs.any λ kv=>decide (kv.1=k):=by
 induction h with
 | nil=>rfl
 | cons r _ ih=>rw[List.any_cons,List.any_cons,ih,r.1]
theorem xj.len {kvs:List (Key×D)}{vs:List (Key×V)}(h:xj K H kvs vs):kvs.length=vs.length:=Paired.length h
theorem xj.uP {k:Key}{d:D}{v:V}(r:zg K H d v):∀ {kvs:List (Key×D)}{vs:List (Key×V)},xj K H kvs vs->xj K H (kvs.map λ kv=>if kv.1=k then (kv.1,d) else kv) (vs.map λ kv=>if kv.1=k then (kv.1,v) else kv)
 | _,_,.nil=>.nil
 | (a1,a2)::_,(b1,b2)::_,.cons ⟨e,q⟩ t=>by
  have e':a1=b1:=e;subst e';refine .cons ?_ (xj.uP r t);by_cases hk:a1=k
  .simp[hk,r]
  .simpa [hk] using q
theorem xj.snoc {k:Key}{d:D}{v:V}(r:zg K H d v):∀ {kvs:List (Key×D)}{vs:List (Key×V)},xj K H kvs vs->xj K H (kvs++[(k,d)]) (vs++[(k,v)])
 | _,_,.nil=>.cons ⟨rfl,r⟩ .nil
 | _,_,.cons q t=>.cons q (xj.snoc r t)
theorem xj.put {kvs:List (Key×D)}{vs:List (Key×V)}(h:xj K H kvs vs) (k:Key) {d:D}{v:V}(r:zg K H d v):xj K H (putD kvs k d) (putK vs k v):=by
 unfold putD putK;rw[h.any k];split
 .exact xj.uP r h
 .exact xj.snoc r h
end
section
variable {X:Cx}{K:PySem.W.Frag}{o i e f v:Expr}{td ty tx tv:zC}{pos pos' apos cpos:Pos}
def ax:zC:=λ _ S Q=>∀ p,S p=none->Q (.ref p) (ups S p (.yg []))
theorem Vp:PD X (.Dict [] [] pos) ax:=by
 refine⟨λ _ _ _ _ hq z p hp=>hq _ _ (z p hp),PE.imp WE fun σ H Q hu p hp=>?_⟩;obtain⟨δ,S,r1,r2,z⟩:=hu;exact z p (r2.none hp) _ _ (by simp only[zg]) (.new hp _) (r2.ups (.new hp _) ⟨[],yL,.nil⟩)
def a9 (td ty:zC):zC:=fun δ S Q=>td δ S λ x S1=>ty δ S1 λ y S2=>∃ p kvs k d,x=.ref p/\y=.int k/\S2 p=some (.yg kvs)/\vV kvs (.inl k)=some d/\Q d S2
theorem dX {k:Nat}(hr:y9 k X.A) (ho:PD X o td) (hi:PD X i ty) (hs:gT i:=by exact λ _ _=>rfl):PD X (.Subscript o i pos) (a9 td ty):=by
 refine⟨fun δ S Q Q' hq z=>ho.mo δ S _ _ (λ x S1 z=>hi.mo δ S1 _ _ (λ y S2 ⟨p,kvs,k,d,a,b,c,e,h⟩=>⟨p,kvs,k,d,a,b,c,e,hq _ _ h⟩) z) z,PE.imp (WH (i_ hr) ho.pe hi.pe hs) fun σ H Q hu=>?_⟩;obtain⟨δ,S,r1,r2,z⟩:=hu;refine zO.go ho.mo r1 r2 z λ x S1 w H1 h1 q1 e1 p1=>?_;refine zO.go hi.mo (r1.ext e1) p1 h1 λ y S2 w2 H2 h2 q2 e2 p2=>?_;obtain⟨p,kvs,k,d,rfl,rfl,c1,c2,h⟩:=h2;simp only[zg] at q1 q2;subst q1 q2;obtain⟨vs,g1,g2⟩:=p2 _ _ c1;rcases xj.val g2 (.inl k) with ⟨n1,_⟩ | ⟨d',v',n1,n2,n3⟩
 .rw[c2] at n1;cases n1
 .rw[c2] at n1;cases n1;exact⟨p,v',rfl,n2▸sk.k (k:=Sum.inl k) g1,h v' H2 n3 (e1.trans e2) p2⟩
def az (td ty tx:zC):zC:=fun δ S Q=>td δ S λ x S1=>∃ p,x=.ref p/\(∃ kvs,S1 p=some (.yg kvs))/\ty δ S1 λ y S2=>tx δ S2 λ z S3=>∃ k kvs,y=.int k/\S3 p=some (.yg kvs)/\Q ((vV kvs (.inl k)).getD z) S3
theorem Vq {k:Nat}(hr:y9 k X.A) (ho:PD X o td) (he:PD X e ty) (hf:PD X f tx) (m:M2 X o "get" apos e f cpos:=by exact⟨rfl,rfl,rfl,rfl⟩):PD X (.Call (.Attribute o "get" apos) [e,f] [] cpos) (az td ty tx):=by
 refine⟨fun δ S Q Q' hq z=>ho.mo δ S _ _ (λ x S1 ⟨p,a,b,z⟩=>⟨p,a,b,he.mo δ S1 _ _ (λ y S2 z=>hf.mo δ S2 _ _ (λ w S3 ⟨k,kvs,a,b,h⟩=>⟨k,kvs,a,b,hq _ _ h⟩) z) z⟩) z,PE.imp (WG (i_ hr) ho.pe he.pe hf.pe m) fun σ H Q hu=>?_⟩;obtain⟨δ,S,r1,r2,z⟩:=hu;refine zO.go ho.mo r1 r2 z λ x S1 w H1 h1 q1 e1 p1=>?_;obtain⟨p,rfl,⟨kvs0,c0⟩,h1⟩:=h1;simp only[zg] at q1;subst q1;obtain⟨vs0,g0,_⟩:=p1 _ _ c0;refine⟨p,rfl,.inl ⟨vs0,.inl g0⟩,?_⟩;refine zO.go he.mo (r1.ext e1) p1 h1 λ y S2 w2 H2 h2 q2 e2 p2=>?_;refine zO.go hf.mo ((r1.ext e1).ext e2) p2 h2 λ y3 S3 w3 H3 h3 q3 e3 p3=>?_;obtain⟨k,kvs,rfl,c1,h⟩:=h3;simp only[zg] at q2;subst q2;obtain⟨vs,g1,g2⟩:=p3 _ _ c1;refine⟨w6 vs (.inl k),sk.k (k:=Sum.inl k) g1,?_⟩;rcases xj.val g2 (.inl k) with ⟨n1,n2⟩ | ⟨d',v',n1,n2,n3⟩
 .rw[n1] at h;rw[n2];exact h _ H3 q3 ((e1.trans e2).trans e3) p3
 .rw[n1] at h;rw[n2];exact h _ H3 n3 ((e1.trans e2).trans e3) p3
def ay (td ty tv:zC):yP:=λ E δ S=>tv δ S λ v S1=>td δ S1 λ x S2=>ty δ S2 λ y S3=>∃ p kvs k,x=.ref p/\y=.int k/\S3 p=some (.yg kvs)/\kvs.length<sizeLine/\E.nx δ (ups S3 p (.yg (putD kvs (.inl k) v)))
theorem Ext.dK {H:Hp}{p:Addr}{kvs:List (Key×V)}(h:H p=some (.dK kvs)) (o:HO):Ext H (upd H p o):=
 ⟨λ b ys q=>by rw[yM (oU q h (by intro z;cases z))];exact q,λ b ob u q=>by rw[yM (oU q h (by intro z;cases z))];exact q⟩
theorem WV {k:Nat}(hr:y9 k X.A) (ho:PD X o td) (hi:PD X i ty) (hv:PD X v tv) (hs:swapsWith v (some (.Subscript o i pos')) pos.line X.env=pure false:=by rfl):vq X (.Assign [.Subscript o i pos'] v pos) (ay td ty tv):=by
 refine⟨λ E E' δ S hE z=>hv.mo δ S _ _ (λ w S1 z=>ho.mo δ S1 _ _ (λ x S2 z=>hi.mo δ S2 _ _ (λ y S3 ⟨p,kvs,k,a,b,c,d,h⟩=>⟨p,kvs,k,a,b,c,d,hE.nx _ _ h⟩) z) z) z,PS.imp (Wd (i_ hr) ho.pe hi.pe hv.pe hs) λ D σ H hu=>?_⟩;obtain⟨δ,S,r1,r2,z⟩:=hu;refine zO.go hv.mo r1 r2 z λ w S1 w1 H1 h1 q1 e1 p1=>?_;refine zO.go ho.mo (r1.ext e1) p1 h1 λ x S2 w2 H2 h2 q2 e2 p2=>?_;refine zO.go hi.mo ((r1.ext e1).ext e2) p2 h2 λ y S3 w3 H3 h3 q3 e3 p3=>?_;obtain⟨p,kvs,k,rfl,rfl,c1,c2,h⟩:=h3;simp only[zg] at q2 q3;subst q2 q3;obtain⟨vs,g1,g2⟩:=p3 _ _ c1;have e4:Ext H3 (upd H3 p (.dK (putK vs (.inl k) w1))):=.dK g1 _;refine⟨p,_,rfl,mG.k (k:=Sum.inl k) g1 (by rw[<- g2.len];exact c2),?_⟩;exact h σ _ ((((r1.ext e1).ext e2).ext e3).ext e4) (((e1.trans e2).trans e3).trans e4) (p3.ups e4 ⟨_,yL,(xj.put g2 _ (zg.ext (e2.trans e3) w q1)).ext e4⟩)
theorem RX:yK X (.builtin "len") (λ xs H Q=>∃ p kvs,xs=[.ref p]/\H p=some (.dK kvs)/\Q (.int kvs.length) H):=by
 intro pins s σ H xs us Q I r h;obtain⟨p,kvs,rfl,e,q⟩:=h;obtain⟨u,rfl,ru⟩:=vals1 r;cases ru;exact Ry I (.inl e) λ t s' I'=>⟨.int _,H,I',⟨_,rfl⟩,q⟩
def bL:xM:=λ ds S Q=>∃ p kvs,ds=[.ref p]/\S p=some (.yg kvs)/\Q (.int kvs.length) S
theorem Vo {es:List Expr}{tA:y6}{p:Pos}(hm:X.mg "len"=none) (ha:xO X (e::es) tA) (hg:Gl X "len":=by rfl) (he:starEach (e::es) X.env=(false,eval e X.env)::starEach es X.env:=by rfl) (hpl:(backTo pos (starEach es X.env)).any (·.1)=false:=by rfl):PD X (.Call (.Name "len" p) (e::es) [] pos) (xK bL tA):=
 uQ (tB RX hg hm PySem.boot_len ha.pa (by decide) (by decide) he hpl) (λ _ _ _ _ hq ⟨p,kvs,a,b,h⟩=>⟨p,kvs,a,b,hq _ _ h⟩) (λ xs ds H S Q h0 h2 ⟨p,kvs,a,b,h⟩=>by
  subst a;obtain⟨x,rfl,h1⟩:=h0.one;simp only[zg] at h1;subst h1;obtain⟨vs,g1,g2⟩:=h2 _ _ b;refine⟨p,vs,rfl,g1,?_⟩;rw[<- g2.len];exact h _ H (by simp only[zg]) (.refl H) h2) ha.mo
end
end L3
namespace L3
open PySem L2
section
variable {S S':SS}
mutual
theorem Sn.sx (h:Sx S S'):∀ (t:T) {d:D},Sn S t d->Sn S' t d
 | .zk,d,q=>by simpa only [Sn] using q
 | .bl b,d,q=>by simpa only [Sn] using q
 | .int i,d,q=>by simpa only [Sn] using q
 | .str x,d,q=>by simpa only [Sn] using q
 | .tup ts,d,q=>by
  simp only[Sn] at q ⊢;obtain⟨ds,q1,q2⟩:=q;exact⟨ds,q1,zo.sx h ts q2⟩
 | .lst ts,d,q=>by
  simp only[Sn] at q ⊢;obtain⟨ds,q1,q2⟩:=q;refine⟨ds,?_,zo.sx h ts q2⟩;rcases q1 with q1 | ⟨a,q1,q3⟩
  .exact .inl q1
  .exact .inr ⟨a,q1,h _ _ q3⟩
 | .zY,d,q=>by
  simp only[Sn] at q ⊢;obtain⟨a,kvs,q1,q2⟩:=q;exact⟨a,kvs,q1,h _ _ q2⟩
theorem zo.sx (h:Sx S S'):∀ (ts:List T) {ds:List D},zo S ts ds->zo S' ts ds
 | [],ds,q=>by simpa only [zo] using q
 | t::ts,ds,q=>by
  simp only[zo] at q ⊢;obtain⟨c,cs,q1,q2,q3⟩:=q;exact⟨c,cs,q1,Sn.sx h t q2,zo.sx h ts q3⟩
end
theorem zo.nil:zo S [] []:=by simp only[zo]
theorem zo.cons {t:T}{ts:List T}{d:D}{ds:List D}(h:Sn S t d) (h':zo S ts ds):zo S (t::ts) (d::ds):=by
 simp only[zo];exact⟨d,ds,rfl,h,h'⟩
theorem zo.append:∀ {ts us:List T}{ds es:List D},zo S ts ds->zo S us es->zo S (ts++us) (ds++es)
 | [],us,ds,es,h,h'=>by simp only[zo] at h;subst h;simpa using h'
 | t::ts,us,ds,es,h,h'=>by
  simp only[zo] at h;obtain⟨c,cs,rfl,h1,h2⟩:=h;exact zo.cons h1 (zo.append h2 h')
theorem zo.lY:∀ {ts:List T}{ds:List D}{i:Nat}{t:T},zo S ts ds->ts[i]?=some t->∃ d,ds[i]?=some d/\Sn S t d
 | [],_,i,t,_,e=>by simp at e
 | u::ts,ds,i,t,h,e=>by
  simp only[zo] at h;obtain⟨c,cs,rfl,h1,h2⟩:=h;cases i with
  | zero=>simp at e;subst e;exact⟨c,rfl,h1⟩
  | succ i=>
   obtain⟨y,e1,e2⟩:=zo.lY (i:=i) h2 (by simpa using e);exact⟨y,by simpa using e1,e2⟩
theorem zo.gh:∀ {ts:List T}{ds:List D}{i:Nat}{d:D},zo S ts ds->ds[i]?=some d->∃ t,ts[i]?=some t/\Sn S t d
 | [],ds,i,t,h,e=>by simp only[zo] at h;subst h;simp at e
 | u::ts,ds,i,t,h,e=>by
  simp only[zo] at h;obtain⟨c,cs,rfl,h1,h2⟩:=h;cases i with
  | zero=>simp at e;subst e;exact⟨u,rfl,h1⟩
  | succ i=>
   obtain⟨y,e1,e2⟩:=zo.gh (i:=i) h2 (by simpa using e);exact⟨y,by simpa using e1,e2⟩
theorem zo.len {ts:List T}{ds:List D}(h:zo S ts ds):ds.length=ts.length:=(L3.zo.length h).symm
theorem zo.at {ts:List T}{ds:List D}{i:Int}{t:T}(h:zo S ts ds) (e:L2.yd ts i=some t):∃ d,L2.yd ds i=some d/\Sn S t d:=by
 unfold L2.yd at e ⊢;rw[h.len];cases q:L2.va ts.length i with
 | none=>rw[q] at e;cases e
 | some j=>
  rw[q] at e;exact h.lY e
theorem zo.eT:∀ {ts:List T}{ds:List D}{t:T}{d:D}(i:Nat),zo S ts ds->Sn S t d->zo S (ts.set i t) (ds.set i d)
 | [],ds,t,d,i,h,_=>by simp only[zo] at h;subst h;simpa using zo.nil
 | u::ts,ds,t,d,0,h,hd=>by
  simp only[zo] at h;obtain⟨c,cs,rfl,h1,h2⟩:=h;exact zo.cons hd h2
 | u::ts,ds,t,d,i+1,h,hd=>by
  simp only[zo] at h;obtain⟨c,cs,rfl,h1,h2⟩:=h;exact zo.cons h1 (zo.eT i h2 hd)
theorem zo.empty {ts:List T}{ds:List D}(h:zo S ts ds):ds.isEmpty=ts.isEmpty:=by
 have:=h.len;cases ds <;> cases ts <;> simp_all
theorem zo.aO:∀ {bs:List Bool}{ds:List D},zo S (bs.map T.bl) ds->ds=bs.map D.bl
 | [],ds,h=>by simpa only [List.map_nil,zo] using h
 | b::bs,ds,h=>by
  rw[List.map_cons] at h;simp only[zo,Sn] at h;obtain⟨c,cs,rfl,rfl,h3⟩:=h;rw[zo.aO h3];rfl
end
end L3
namespace L5
open PySem L2 L3
noncomputable def zT (S:SS) (Z:Addr->Prop):SS:=open Classical in λ a=>if Z a then none else S a
section
variable {S S' S1:SS}{Z Z':Addr->Prop}{a p:Addr}
theorem ug (h:¬ Z a):zT S Z a=S a:=if_neg h
theorem ni (h:Z a):zT S Z a=none:=if_pos h
theorem u6 {o:O}(h:zT S Z a=some o):¬ Z a/\S a=some o:=by
 by_cases z:Z a
 .rw[ni z] at h;cases h
 .rw[ug z] at h;exact⟨z,h⟩
theorem q_ (S:SS) (Z:Addr->Prop):Sx (zT S Z) S:=λ _ _ h=>(u6 h).2
theorem wN (h:Sx S S'):Sx (zT S Z) (zT S' Z):=λ b o q=>by
 obtain⟨q1,q2⟩:=u6 q;rw[ug q1];exact h _ _ q2
theorem uU (h:∀ a,Z' a->Z a):Sx (zT S Z) (zT S Z'):=λ b o q=>by
 obtain⟨q1,q2⟩:=u6 q;rw[ug (λ z=>q1 (h _ z))];exact q2
theorem pb (h:Sx S S') (hp:S p=none):Sx (zT S Z) (zT S' λ a=>Z a\/a=p):=λ b o q=>by
 obtain⟨q1,q2⟩:=u6 q;rw[ug]
 .exact h _ _ q2
 .rintro (z | z)
  .exact q1 z
  .subst z;rw[hp] at q2;cases q2
theorem Sg {o:O}(h:Z p):zT (ups S p o) Z=zT S Z:=by
 funext b;by_cases z:Z b
 .rw[ni z,ni z]
 .rw[ug z,ug z,uI (λ e=>z (by rw[e];exact h))]
end
inductive C where
 | lst (ts:List T) | yg (kvs:List (Key×T))
noncomputable def yE (S:SS):List (Key×T)->List (Key×D)->Prop
 | [],l=>l=[]
 | (k,t)::r,l=>∃ d m,l=(k,d)::m/\Sn S t d/\yE S r m
theorem yE.sx {S S':SS}(h:Sx S S'):∀ {a:List (Key×T)}{b:List (Key×D)},yE S a b->yE S' a b
 | [],_,q=>q
 | (k,t)::r,_,q=>by
  obtain⟨d,m,q1,q2,q3⟩:=q;exact⟨d,m,q1,Sn.sx h t q2,yE.sx h q3⟩
noncomputable def tq (S:SS):C->O->Prop
 | .lst ts,.lst ds=>zo S ts ds
 | .yg a,.yg b=>yE S a b
 | _,_=>False
theorem tq.sx {S S':SS}(h:Sx S S'):∀ {c:C}{o:O},tq S c o->tq S' c o
 | .lst ts,.lst ds,q=>zo.sx h ts q
 | .yg a,.yg b,q=>yE.sx h q
inductive W where
 | im (t:T) | own (c:C)
abbrev Ev:=List (Option W)
structure ER (S:SS) (Z:Addr->Prop) (δ:yn) (ρ:Ev):Prop where
 zd:∀ a,Z a->S a≠none
 im:∀ (i:Nat) t,ρ[i]?=some (some (.im t))->∃ d,δ[i]?=some (some d)/\Sn (zT S Z) t d
 ow:∀ (i:Nat) c,ρ[i]?=some (some (.own c))->∃ p o,δ[i]?=some (some (.ref p))/\S p=some o/\tq (zT S Z) c o/\Z p
def Vw (S:SS) (Z:Addr->Prop) (y:T) (d:D):Prop:=Sn (zT S Z) y d\/∃ ts p ds,y=.lst ts/\d=.ref p/\S p=some (.lst ds)/\zo (zT S Z) ts ds/\Z p
abbrev Rk:=SS->SS->(Addr->Prop)->T->D->Prop
def Zc:Rk:=λ _ S' Z y d=>Vw S' Z y d
def uu:Rk:=λ _ S' Z y d=>Sn (zT S' Z) y d
def zM:Rk:=λ S S' Z y d=>Sn (zT S' Z) y d/\∀ ts,y=.lst ts->∃ p ds,d=.ref p/\S p=none/\S' p=some (.lst ds)/\zo (zT S' λ a=>Z a\/a=p) ts ds
class Cl (R:Rk):Prop where
 cl:∀ {S S1 S':SS}{Z:Addr->Prop}{y:T}{d:D},Sx S S1->R S1 S' Z y d->R S S' Z y d
 of:∀ {S S':SS}{Z:Addr->Prop}{y:T}{d:D},(∀ ts,y≠.lst ts)->Sn (zT S' Z) y d->R S S' Z y d
instance:Cl Zc:=⟨λ _ h=>h,λ _ h=>.inl h⟩
instance:Cl uu:=⟨λ _ h=>h,λ _ h=>h⟩
instance:Cl zM:=⟨λ s h=>⟨h.1,λ ts e=>by
 obtain⟨p,ds,h1,h2,h3⟩:=h.2 ts e;exact⟨p,ds,h1,s.none h2,h3⟩⟩,λ n h=>⟨h,λ ts e=>absurd e (n ts)⟩⟩
section
variable {S S' S1:SS}{Z Z':Addr->Prop}{δ:yn}{ρ:Ev}{y:T}{d:D}
theorem ER.grow (h:ER S Z δ ρ) (s:Sx S S'):ER S' Z δ ρ:=
 ⟨λ a z q=>h.zd a z (s.none q),λ i t e=>by
  obtain⟨d,h1,h2⟩:=h.im i t e;exact⟨d,h1,Sn.sx (wN s) t h2⟩,λ i ts e=>by
  obtain⟨p,ds,h1,h2,h3,h4⟩:=h.ow i ts e;exact⟨p,ds,h1,s _ _ h2,tq.sx (wN s) h3,h4⟩⟩
theorem Vw.grow (h:Vw S Z y d) (s:Sx S S'):Vw S' Z y d:=by
 rcases h with h | ⟨ts,p,ds,h1,h2,h3,h4,h5⟩
 .exact .inl (Sn.sx (wN s) y h)
 .exact .inr ⟨ts,p,ds,h1,h2,s _ _ h3,zo.sx (wN s) ts h4,h5⟩
theorem Vw.sn (h:Vw S Z y d):Sn S y d:=by
 rcases h with h | ⟨ts,p,ds,rfl,rfl,h3,h4,_⟩
 .exact Sn.sx (q_ S Z) y h
 .simp only[Sn];exact⟨ds,.inr ⟨p,rfl,h3⟩,zo.sx (q_ S Z) ts h4⟩
theorem Vw.zk (h:Vw S Z .zk d):d=.zk:=by
 rcases h with h | ⟨_,_,_,h,_⟩
 .simpa only [Sn] using h
 .cases h
theorem Vw.bl {b:Bool}(h:Vw S Z (.bl b) d):d=.bl b:=by
 rcases h with h | ⟨_,_,_,h,_⟩
 .simpa only [Sn] using h
 .cases h
theorem Vw.int {b:Int}(h:Vw S Z (.int b) d):d=.int b:=by
 rcases h with h | ⟨_,_,_,h,_⟩
 .simpa only [Sn] using h
 .cases h
theorem Vw.str {b:Str}(h:Vw S Z (.str b) d):d=.str b:=by
 rcases h with h | ⟨_,_,_,h,_⟩
 .simpa only [Sn] using h
 .cases h
theorem Vw.tup {ts:List T}(h:Vw S Z (.tup ts) d):∃ ds,d=.tup ds/\zo (zT S Z) ts ds:=by
 rcases h with h | ⟨_,_,_,h,_⟩
 .simpa only [Sn] using h
 .cases h
theorem Vw.lst {ts:List T}(h:Vw S Z (.lst ts) d):∃ ds,(d=.yO ds\/∃ a,d=.ref a/\S a=some (.lst ds))/\zo (zT S Z) ts ds:=by
 rcases h with h | ⟨us,p,ds,h1,h2,h3,h4,_⟩
 .simp only[Sn] at h;obtain⟨ds,h1,h2⟩:=h;refine⟨ds,?_,h2⟩;rcases h1 with h1 | ⟨a,h1,h3⟩
  .exact .inl h1.1
  .exact .inr ⟨a,h1,(u6 h3).2⟩
 .cases h1;exact⟨ds,.inr ⟨p,h2,h3⟩,h4⟩
noncomputable def xS:T->Option (List T)
 | .tup ts=>some ts
 | .lst ts=>some ts
 | _=>none
@[simp] theorem zab (ts:List T):xS (.tup ts)=some ts:=rfl
@[simp] theorem zac (ts:List T):xS (.lst ts)=some ts:=rfl
theorem Vw.seq {ts:List T}(h:Vw S Z y d) (e:xS y=some ts):∃ ds,zZ d S=some ds/\zo (zT S Z) ts ds:=by
 cases y with
 | tup us=>cases e;obtain⟨ds,rfl,h2⟩:=h.tup;exact⟨ds,rfl,h2⟩
 | lst us=>
  cases e;obtain⟨ds,h1 | ⟨a,rfl,h1⟩,h2⟩:=h.lst
  .subst h1;exact⟨ds,rfl,h2⟩
  .exact⟨ds,by unfold zZ;dsimp only;rw[h1],h2⟩
 | zk=>cases e
 | bl _=>cases e
 | int _=>cases e
 | str _=>cases e
 | zY=>cases e
theorem Vw.zY (h:Vw S Z .zY d):∃ a kvs,d=.ref a/\S a=some (.yg kvs):=by
 rcases h with h | ⟨_,_,_,h,_⟩
 .simp only[Sn] at h;obtain⟨a,kvs,h1,h2⟩:=h;exact⟨a,kvs,h1,(u6 h2).2⟩
 .cases h
theorem jq:Sn S .zk .zk:=by simp only[Sn]
theorem wI {b:Bool}:Sn S (.bl b) (.bl b):=by simp only[Sn]
theorem wY {i:Int}:Sn S (.int i) (.int i):=by simp only[Sn]
theorem eP {x:Str}:Sn S (.str x) (.str x):=by simp only[Sn]
theorem qA {ts:List T}{ds:List D}(h:zo S ts ds):Sn S (.tup ts) (.tup ds):=by simp only[Sn];exact⟨ds,rfl,h⟩
theorem sH {ts:List T}{ds:List D}{p:Addr}(hz:∀ a,Z a->S a≠none) (hp:S p=none) (h:zo (zT S Z) ts ds):zM S (ups S p (.lst ds)) Z (.lst ts) (.ref p):=by
 have nz:¬ Z p:=λ z=>hz p z hp;have s:Sx S (ups S p (.lst ds)):=.new hp _;refine⟨?_,λ us e=>?_⟩
 .simp only[Sn];exact⟨ds,.inr ⟨p,rfl,by rw[ug nz,sr]⟩,zo.sx (wN s) ts h⟩
 .cases e;exact⟨p,ds,rfl,hp,sr,zo.sx (pb s hp) ts h⟩
end
def wa (R:Rk) (f:Ev->Option T) (t:zC):Prop:=∀ S Z δ ρ y Q,ER S Z δ ρ->f ρ=some y->(∀ d S',Sx S S'->R S S' Z y d->Q d S')->t δ S Q
abbrev vt:=wa uu
abbrev yA:=wa Zc
abbrev xI:=wa zM
theorem wa.imp {R R':Rk}{f:Ev->Option T}{t:zC}(h:wa R f t) (i:∀ S S' Z y d,R S S' Z y d->R' S S' Z y d):wa R' f t:=λ S Z δ ρ y Q hE e hq=>h S Z δ ρ y Q hE e λ d S' s r=>hq d S' s (i _ _ _ _ _ r)
theorem wa.er {f:Ev->Option T}{t:zC}(h:vt f t):yA f t:=h.imp λ _ _ _ _ _ r=>.inl r
theorem wa.fe {f:Ev->Option T}{t:zC}(h:xI f t):vt f t:=h.imp λ _ _ _ _ _ r=>r.1
theorem wa.fr {f:Ev->Option T}{t:zC}(h:xI f t):yA f t:=h.fe.er
@[simp] noncomputable def zu (i:Nat):Ev->Option T:=fun ρ=>match ρ[i]? with
 | some (some (.im t))=>some t
 | _=>none
@[simp] noncomputable def zf (i:Nat):Ev->Option T:=fun ρ=>match ρ[i]? with
 | some (some (.im t))=>some t
 | some (some (.own (.lst ts)))=>some (.lst ts)
 | _=>none
@[simp] noncomputable def cS (t:T):Ev->Option T:=λ _=>some t
theorem zw (i:Nat):vt (zu i) (y8 i):=λ S Z δ ρ y Q hE e hq=>by
 unfold zu at e;split at e
 .rename_i t h;cases e;obtain⟨d,h1,h2⟩:=hE.im i _ h;unfold y8;rw[h1];exact hq d S (.refl S) h2
 .cases e
theorem zl (i:Nat):yA (zf i) (y8 i):=λ S Z δ ρ y Q hE e hq=>by
 unfold zf at e;split at e
 .rename_i t h;cases e;obtain⟨d,h1,h2⟩:=hE.im i _ h;unfold y8;rw[h1];exact hq d S (.refl S) (.inl h2)
 .rename_i ts h;cases e;obtain⟨p,o,h1,h2,h3,h4⟩:=hE.ow i _ h;unfold y8;rw[h1];cases o with
  | yg _=>exact h3.elim
  | lst ds=>exact hq _ S (.refl S) (.inr ⟨ts,p,ds,rfl,rfl,h2,h3,h4⟩)
 .cases e
theorem zi (i:Int):xI (cS (.int i)) (dC (.int i)):=λ S Z δ ρ y Q hE e hq=>by cases e;exact hq _ S (.refl S) (Cl.of (λ _=>nofun) wY)
theorem oP (i:Bool):xI (cS (.bl i)) (dC (.bl i)):=λ S Z δ ρ y Q hE e hq=>by cases e;exact hq _ S (.refl S) (Cl.of (λ _=>nofun) wI)
theorem lE (i:Str):xI (cS (.str i)) (dC (.str i)):=λ S Z δ ρ y Q hE e hq=>by cases e;exact hq _ S (.refl S) (Cl.of (λ _=>nofun) eP)
theorem cp:xI (cS .zk) (dC .zk):=λ S Z δ ρ y Q hE e hq=>by cases e;exact hq _ S (.refl S) (Cl.of (λ _=>nofun) jq)
@[simp] noncomputable def zc (f:T->T->Option T) (fa fb:Ev->Option T):Ev->Option T:=fun ρ=>(fa ρ).bind λ x=>(fb ρ).bind λ y=>f x y
def Good2 (R:Rk) (f:T->T->Option T) (g:yU):Prop:=∀ S Z x y z d e Q,(∀ a,Z a->S a≠none)->Vw S Z x d->Vw S Z y e->f x y=some z->(∀ c S',Sx S S'->R S S' Z z c->Q c S')->g d e S Q
theorem zt {R:Rk} [Cl R] {f:T->T->Option T}{g:yU}{fa fb:Ev->Option T}{ta tb:zC}(hg:Good2 R f g) (ha:yA fa ta) (hb:yA fb tb):wa R (zc f fa fb) (yw g ta tb):=λ S Z δ ρ y Q hE e hq=>by
 unfold zc at e;obtain⟨x,e1,e⟩:=zOb e;obtain⟨z,e2,e⟩:=zOb e;refine ha S Z δ ρ x _ hE e1 λ d S1 s1 r1=>?_;refine hb S1 Z δ ρ z _ (hE.grow s1) e2 λ d2 S2 s2 r2=>?_;exact hg S2 Z x z y d d2 Q ((hE.grow (s1.trans s2)).zd) (Vw.grow r1 s2) r2 e λ c S' s r=>hq c S' ((s1.trans s2).trans s) (Cl.cl (s1.trans s2) r)
@[simp] noncomputable def i2 (g:Int->Int->T):T->T->Option T
 | .int i,.int j=>some (g i j)
 | _,_=>none
instance {i j:Int}:Decidable (wz i j):=by unfold wz;infer_instance
instance {i j:Int}:Decidable (xt i j):=by unfold xt;infer_instance
instance {i j:Int}:Decidable (qw i j):=by unfold qw;infer_instance
@[simp] noncomputable def nh (C:Int->Int->Prop) [∀ i j,Decidable (C i j)] (g:Int->Int->T):T->T->Option T
 | .int i,.int j=>if C i j then some (g i j) else none
 | _,_=>none
theorem nu {g:Int->Int->T}{g':Int->Int->D}(h:∀ i j S,Sn S (g i j) (g' i j)) (n:∀ i j ts,g i j≠.lst ts):Good2 zM (i2 g) (x9 g'):=λ S Z x y z d e Q hz hx hy ef hq=>by
 unfold i2 at ef;split at ef
 .cases ef;cases hx.int;cases hy.int;exact hq _ S (.refl S) (Cl.of (n _ _) (h _ _ _))
 .cases ef
theorem h_ {C:Int->Int->Prop} [∀ i j,Decidable (C i j)] {g:Int->Int->T}{g':Int->Int->D}(h:∀ i j S,Sn S (g i j) (g' i j)) (n:∀ i j ts,g i j≠.lst ts):Good2 zM (nh C g) (fI C g'):=λ S Z x y z d e Q hz hx hy ef hq=>by
 unfold nh at ef;split at ef
 .split at ef
  .rename_i hh;cases ef;cases hx.int;cases hy.int;exact⟨hh,hq _ S (.refl S) (Cl.of (n _ _) (h _ _ _))⟩
  .cases ef
 .cases ef
@[simp] noncomputable def uL:T->T->Option T:=i2 λ i j=>.int (i-j)
@[simp] noncomputable def z_:T->T->Option T:=nh (λ _ j=>0<j) λ i j=>.int (i%j)
@[simp] noncomputable def yG:T->T->Option T:=nh xt λ i j=>.int (i/j)
@[simp] noncomputable def dB:T->T->Option T:=nh qw λ i j=>.int (i ^ j.toNat)
@[simp] noncomputable def rS:T->T->Option T:=i2 λ i j=>.bl (decide (i<=j))
@[simp] noncomputable def nj:T->T->Option T:=i2 λ i j=>.bl (decide (j<i))
@[simp] noncomputable def ny:T->T->Option T:=i2 λ i j=>.bl (decide (j<=i))
section
variable {fa fb:Ev->Option T}{ta tb:zC}
theorem tI (ha:yA fa ta) (hb:yA fb tb):xI (zc uL fa fb) (yw (x9 λ i j=>.int (i-j)) ta tb):=zt (nu (λ _ _ _=>wY) λ _ _ _=>nofun) ha hb
theorem yz (ha:yA fa ta) (hb:yA fb tb):xI (zc z_ fa fb) (yw (fI (λ _ j=>0<j) λ i j=>.int (i%j)) ta tb):=zt (h_ (λ _ _ _=>wY) λ _ _ _=>nofun) ha hb
theorem xw (ha:yA fa ta) (hb:yA fb tb):xI (zc yG fa fb) (yw (fI xt λ i j=>.int (i/j)) ta tb):=zt (h_ (λ _ _ _=>wY) λ _ _ _=>nofun) ha hb
theorem VX (ha:yA fa ta) (hb:yA fb tb):xI (zc dB fa fb) (yw (fI qw λ i j=>.int (i ^ j.toNat)) ta tb):=zt (h_ (λ _ _ _=>wY) λ _ _ _=>nofun) ha hb
theorem Ud (ha:yA fa ta) (hb:yA fb tb):xI (zc rS fa fb) (yw kd ta tb):=zt (nu (λ _ _ _=>wI) λ _ _ _=>nofun) ha hb
theorem lG (ha:yA fa ta) (hb:yA fb tb):xI (zc nj fa fb) (yw gp ta tb):=zt (nu (λ _ _ _=>wI) λ _ _ _=>nofun) ha hb
theorem lH (ha:yA fa ta) (hb:yA fb tb):xI (zc ny fa fb) (yw ke ta tb):=zt (nu (λ _ _ _=>wI) λ _ _ _=>nofun) ha hb
end
noncomputable def ym (neg:Bool):T->T->Option T:=λ x y=>if dep x<=60/\dep y<=60 then some (.bl (cond neg (!eqT x y) (eqT x y))) else none
noncomputable def qX (neg:Bool):T->T->Option T:=λ x y=>match xS y with
 | some ts=>if dep x<=60/\y7 ts<=60 then some (.bl (cond neg (!(ts.any λ t=>eqT t x)) (ts.any λ t=>eqT t x))) else none
 | none=>none
theorem wo {neg:Bool}:Good2 zM (ym neg) (vn neg):=λ S Z x y z d e Q hz hx hy ef hq=>by
 unfold ym at ef;split at ef
 .rename_i h;cases ef;exact⟨x,y,hx.sn,hy.sn,h.1,h.2,hq _ S (.refl S) (Cl.of (λ _=>nofun) wI)⟩
 .cases ef
theorem Sz {neg:Bool}:Good2 zM (qX neg) (sU neg):=λ S Z x y z d e Q hz hx hy ef hq=>by
 unfold qX at ef;split at ef
 .rename_i ts ht;split at ef
  .rename_i h;cases ef;obtain⟨ds,h1,h2⟩:=hy.seq ht;exact⟨x,ts,ds,hx.sn,h1,zo.sx (q_ S Z) ts h2,h.1,h.2,hq _ S (.refl S) (Cl.of (λ _=>nofun) wI)⟩
  .cases ef
 .cases ef
@[simp] noncomputable def zv:T->T->Option T:=λ x y=>match xS x,y with
 | some ts,.int i=>L2.yd ts i
 | _,_=>none
theorem zH:Good2 uu zv wF:=λ S Z x y z d e Q hz hx hy ef hq=>by
 unfold zv at ef;split at ef
 .rename_i ts i ht;cases hy.int;obtain⟨ds,h1,h2⟩:=hx.seq ht;obtain⟨c,h3,h4⟩:=h2.at ef;unfold zZ at h1;split at h1
  .cases h1;exact SW h3 (hq c S (.refl S) h4)
  .cases h1;exact SX h3 (hq c S (.refl S) h4)
  .split at h1
   .rename_i q;cases h1;exact SY q h3 (hq c S (.refl S) h4)
   .cases h1
  .cases h1
 .cases ef
@[simp] noncomputable def y_:T->T->Option T
 | .int i,.int j=>some (.int (i+j))
 | .str i,.str j=>if i.length+j.length<=sizeLine then some (.str (i++j)) else none
 | .lst ts,.lst us=>if ts.length+us.length<=sizeLine then some (.lst (ts++us)) else none
 | .tup ts,.tup us=>if ts.length+us.length<=sizeLine then some (.tup (ts++us)) else none
 | _,_=>none
def uk:yU:=λ x y S Q=>match x,y with
 | .int i,.int j=>Q (.int (i+j)) S
 | .str i,.str j=>i.length+j.length<=sizeLine/\Q (.str (i++j)) S
 | .tup ds,.tup es=>ds.length+es.length<=sizeLine/\Q (.tup (ds++es)) S
 | .zk,_=>False
 | .bl _,_=>False
 | .int _,_=>False
 | .str _,_=>False
 | .tup _,_=>False
 | x,y=>match zZ x S,zZ y S with
  | some ds,some es=>(∀ ts,y≠.tup ts)/\ds.length+es.length<=sizeLine/\∀ r,S r=none->Q (.ref r) (ups S r (.lst (ds++es)))
  | _,_=>False
theorem good_add:Good2 zM y_ uk:=λ S Z x y z d e Q hz hx hy ef hq=>by
 unfold y_ at ef;split at ef
 .cases ef;cases hx.int;cases hy.int;exact hq _ S (.refl S) (Cl.of (λ _=>nofun) wY)
 .split at ef
  .rename_i h;cases ef;cases hx.str;cases hy.str;exact⟨h,hq _ S (.refl S) (Cl.of (λ _=>nofun) eP)⟩
  .cases ef
 .split at ef
  .rename_i h;cases ef;obtain⟨ds,h1,h2⟩:=hx.seq rfl;obtain⟨es,h3,h4⟩:=hy.seq rfl;have nt:∀ ts,e≠.tup ts:=by
    obtain⟨_,q | ⟨_,q,_⟩,_⟩:=hy.lst <;> subst q <;> exact λ _=>nofun
   have key:(∀ ts,e≠.tup ts)/\ds.length+es.length<=sizeLine/\∀ r,S r=none->Q (.ref r) (ups S r (.lst (ds++es))):=
    ⟨nt,by rw[h2.len,h4.len];exact h,λ r hr=>hq _ _ (.new hr _) (sH hz hr (h2.append h4))⟩
   obtain⟨_,q | ⟨a,q,_⟩,_⟩:=hx.lst
   .subst q;unfold uk;dsimp only;rw[h1,h3];exact key
   .subst q;unfold uk;dsimp only;rw[h1,h3];exact key
  .cases ef
 .split at ef
  .rename_i h;cases ef;obtain⟨ds,rfl,h2⟩:=hx.tup;obtain⟨es,rfl,h4⟩:=hy.tup;exact⟨by rw[h2.len,h4.len];exact h,hq _ S (.refl S) (Cl.of (λ _=>nofun) (qA (h2.append h4)))⟩
  .cases ef
 .cases ef
def vh (f:Ev->Option Bool) (t:yJ):Prop:=∀ S Z δ ρ y Q,ER S Z δ ρ->f ρ=some y->(∀ S',Sx S S'->Q y S')->t δ S Q
@[simp] noncomputable def yu (f:Ev->Option T):Ev->Option Bool:=fun ρ=>(f ρ).bind λ x=>match x with
 | .bl b=>some b
 | _=>none
@[simp] noncomputable def sA:T->Option Bool
 | .zk=>some false
 | .bl b=>some b
 | .int i=>some (i != 0)
 | .str x=>if x.length<=sizeLine then some ((x.length:Int) != 0) else none
 | .tup ts=>some (!ts.isEmpty)
 | .lst ts=>some (!ts.isEmpty)
 | .zY=>none
@[simp] noncomputable def wb (f:Ev->Option T):Ev->Option Bool:=fun ρ=>(f ρ).bind sA
@[simp] noncomputable def rY (f g:Ev->Option Bool):Ev->Option Bool:=fun ρ=>(f ρ).bind λ b=>if b=true then g ρ else some false
@[simp] noncomputable def p0 (f g:Ev->Option Bool):Ev->Option Bool:=fun ρ=>(f ρ).bind λ b=>if b=true then some true else g ρ
@[simp] noncomputable def sX (f:Ev->Option Bool):Ev->Option Bool:=fun ρ=>(f ρ).map (!·)
section
variable {f g:Ev->Option T}{t u:zC}{fb gb:Ev->Option Bool}{tb ub:yJ}{R:Rk}
theorem yQ (h:yA f t):vh (yu f) (vL t):=λ S Z δ ρ y Q hE e hq=>by
 obtain⟨x,e1,e2⟩:=zOb e;refine h S Z δ ρ x _ hE e1 λ d S1 s1 r1=>?_;split at e2
 .cases e2;cases Vw.bl r1;exact hq S1 s1
 .cases e2
theorem tH (h:yA f t):vh (wb f) (bZ t):=λ S Z δ ρ y Q hE e hq=>by
 obtain⟨x,e1,e2⟩:=zOb e;refine h S Z δ ρ x _ hE e1 λ d S1 s1 r1=>?_;cases x with
 | zk=>cases Vw.zk r1;cases e2;exact hq S1 s1
 | bl b=>cases Vw.bl r1;cases e2;exact hq S1 s1
 | int b=>cases Vw.int r1;cases e2;exact hq S1 s1
 | str b=>
  cases Vw.str r1;simp only[sA] at e2;split at e2
  .rename_i hh;cases e2;exact⟨hh,hq S1 s1⟩
  .cases e2
 | tup ts=>
  obtain⟨ds,rfl,h2⟩:=Vw.tup r1;cases e2;show Q (!ds.isEmpty) S1;rw[h2.empty];exact hq S1 s1
 | lst ts=>
  obtain⟨ds,rfl | ⟨a,rfl,h1⟩,h2⟩:=Vw.lst r1
  .cases e2;show Q (!ds.isEmpty) S1;rw[h2.empty];exact hq S1 s1
  .cases e2;refine Y7 h1 ?_;rw[h2.empty];exact hq S1 s1
 | zY=>cases e2
theorem oO (h:vh fb tb) (h':vh gb ub):vh (rY fb gb) (nG tb ub):=λ S Z δ ρ y Q hE e hq=>by
 obtain⟨b,e1,e2⟩:=zOb e;refine h S Z δ ρ b _ hE e1 λ S1 s1=>?_;split at e2
 .rename_i hb;rw[if_pos hb];exact h' S1 Z δ ρ y _ (hE.grow s1) e2 λ S2 s2=>hq S2 (s1.trans s2)
 .rename_i hb;rw[if_neg hb];cases e2;exact hq S1 s1
theorem oM (h:vh fb tb) (h':vh gb ub):vh (p0 fb gb) (nE tb ub):=λ S Z δ ρ y Q hE e hq=>by
 obtain⟨b,e1,e2⟩:=zOb e;refine h S Z δ ρ b _ hE e1 λ S1 s1=>?_;split at e2
 .rename_i hb;rw[if_pos hb];cases e2;exact hq S1 s1
 .rename_i hb;rw[if_neg hb];exact h' S1 Z δ ρ y _ (hE.grow s1) e2 λ S2 s2=>hq S2 (s1.trans s2)
theorem qR (h:vh fb tb):vh (sX fb) (nF tb):=λ S Z δ ρ y Q hE e hq=>by
 unfold sX at e;obtain⟨b,e1,rfl⟩:=zOm e;exact h S Z δ ρ b _ hE e1 λ S1 s1=>hq S1 s1
@[simp] noncomputable def kD (f g:Ev->Option T):Ev->Option T:=fun ρ=>(f ρ).bind λ x=>match x with
 | .bl k=>if k=true then g ρ else some (.bl false)
 | _=>none
@[simp] noncomputable def cu (f:Ev->Option T):Ev->Option T:=fun ρ=>(f ρ).bind λ x=>match x with
 | .bl k=>some (.bl (!k))
 | _=>none
@[simp] noncomputable def bu (c:Ev->Option Bool) (f g:Ev->Option T):Ev->Option T:=fun ρ=>(c ρ).bind λ b=>if b=true then f ρ else g ρ
theorem i7 [Cl R] (h:yA f t) (h':wa R g u):wa R (kD f g) (nS t u):=λ S Z δ ρ y Q hE e hq=>by
 obtain⟨x,e1,e2⟩:=zOb e;refine h S Z δ ρ x _ hE e1 λ d S1 s1 r1=>?_;split at e2
 .cases Vw.bl r1;split at e2
  .rename_i hb;dsimp only;rw[if_pos hb];exact h' S1 Z δ ρ y _ (hE.grow s1) e2 λ d S2 s2 r2=>hq d S2 (s1.trans s2) (Cl.cl s1 r2)
  .rename_i hb;dsimp only;rw[if_neg hb];cases e2;exact hq _ S1 s1 (Cl.of (λ _=>nofun) wI)
 .cases e2
theorem V_ [Cl R] (h:yA f t):wa R (cu f) (nM t):=λ S Z δ ρ y Q hE e hq=>by
 obtain⟨x,e1,e2⟩:=zOb e;refine h S Z δ ρ x _ hE e1 λ d S1 s1 r1=>?_;split at e2
 .cases Vw.bl r1;cases e2;exact hq _ S1 s1 (Cl.of (λ _=>nofun) wI)
 .cases e2
theorem Uu [Cl R] (hc:vh fb tb) (h:wa R f t) (h':wa R g u):wa R (bu fb f g) (nN tb t u):=λ S Z δ ρ y Q hE e hq=>by
 obtain⟨b,e1,e2⟩:=zOb e;refine hc S Z δ ρ b _ hE e1 λ S1 s1=>?_;split at e2
 .rename_i hb;rw[if_pos hb];exact h S1 Z δ ρ y _ (hE.grow s1) e2 λ d S2 s2 r2=>hq d S2 (s1.trans s2) (Cl.cl s1 r2)
 .rename_i hb;rw[if_neg hb];exact h' S1 Z δ ρ y _ (hE.grow s1) e2 λ d S2 s2 r2=>hq d S2 (s1.trans s2) (Cl.cl s1 r2)
end
noncomputable def mf (S:SS) (Z:Addr->Prop):List T->List D->Prop
 | [],ds=>ds=[]
 | t::ts,ds=>∃ c cs,ds=c::cs/\Vw S Z t c/\mf S Z ts cs
def qm (f:Ev->Option (List T)) (t:y6):Prop:=∀ S Z δ ρ ys Q,ER S Z δ ρ->f ρ=some ys->(∀ ds S',Sx S S'->mf S' Z ys ds->Q ds S')->t δ S Q
def pF (f:Ev->Option (List T)) (t:y6):Prop:=∀ S Z δ ρ ys Q,ER S Z δ ρ->f ρ=some ys->(∀ ds S',Sx S S'->zo (zT S' Z) ys ds->Q ds S')->t δ S Q
@[simp] noncomputable def zm:Ev->Option (List T):=λ _=>some []
@[simp] noncomputable def zb (f:Ev->Option T) (g:Ev->Option (List T)):Ev->Option (List T):=fun ρ=>(f ρ).bind λ x=>(g ρ).bind λ xs=>some (x::xs)
section
variable {f:Ev->Option T}{g:Ev->Option (List T)}{t:zC}{u:y6}
theorem yi:qm zm kj:=λ S Z δ ρ y Q hE e hq=>by cases e;exact hq [] S (.refl S) rfl
theorem zy:pF zm kj:=λ S Z δ ρ y Q hE e hq=>by cases e;exact hq [] S (.refl S) .nil
theorem zV (h:yA f t) (h':qm g u):qm (zb f g) (r_ t u):=λ S Z δ ρ y Q hE e hq=>by
 obtain⟨x,e1,e0⟩:=zOb e;obtain⟨xs,e2,e3⟩:=zOb e0;cases e3;refine h S Z δ ρ x _ hE e1 λ d S1 s1 r1=>?_;refine h' S1 Z δ ρ xs _ (hE.grow s1) e2 λ ds S2 s2 r2=>?_;exact hq _ S2 (s1.trans s2) ⟨d,ds,rfl,Vw.grow r1 s2,r2⟩
theorem zj (h:vt f t) (h':pF g u):pF (zb f g) (r_ t u):=λ S Z δ ρ y Q hE e hq=>by
 obtain⟨x,e1,e0⟩:=zOb e;obtain⟨xs,e2,e3⟩:=zOb e0;cases e3;refine h S Z δ ρ x _ hE e1 λ d S1 s1 r1=>?_;refine h' S1 Z δ ρ xs _ (hE.grow s1) e2 λ ds S2 s2 r2=>?_;exact hq _ S2 (s1.trans s2) (.cons (Sn.sx (wN s2) x r1) r2)
@[simp] noncomputable def tupS (g:Ev->Option (List T)):Ev->Option T:=fun ρ=>(g ρ).bind λ xs=>if xs.length<=sizeLine then some (.tup xs) else none
@[simp] noncomputable def xF (g:Ev->Option (List T)):Ev->Option T:=fun ρ=>(g ρ).bind λ xs=>if xs.length<=sizeLine then some (.lst xs) else none
theorem xf (h:pF g u):xI (tupS g) (ak u):=λ S Z δ ρ y Q hE e hq=>by
 obtain⟨xs,e1,e2⟩:=zOb e;split at e2
 .rename_i hl;cases e2;refine h S Z δ ρ xs _ hE e1 λ ds S1 s1 r1=>⟨by rw[r1.len];exact hl,hq _ S1 s1 (Cl.of (λ _=>nofun) (qA r1))⟩
 .cases e2
theorem xV (h:pF g u):xI (xF g) (au u):=λ S Z δ ρ y Q hE e hq=>by
 obtain⟨xs,e1,e2⟩:=zOb e;split at e2
 .rename_i hl;cases e2;refine h S Z δ ρ xs _ hE e1 λ ds S1 s1 r1=>⟨by rw[r1.len];exact hl,λ p hp=>hq _ _ (s1.trans (.new hp _)) (Cl.cl s1 (sH (hE.grow s1).zd hp r1))⟩
 .cases e2
end
@[simp] noncomputable def zB (F:List T->Option T) (g:Ev->Option (List T)):Ev->Option T:=fun ρ=>(g ρ).bind F
def vS (R:Rk) (F:List T->Option T) (f:xM):Prop:=∀ S Z ys z ds Q,(∀ a,Z a->S a≠none)->mf S Z ys ds->F ys=some z->(∀ c S',Sx S S'->R S S' Z z c->Q c S')->f ds S Q
theorem y4 {R:Rk} [Cl R] {F:List T->Option T}{f:xM}{g:Ev->Option (List T)}{u:y6}(hf:vS R F f) (h:qm g u):wa R (zB F g) (xK f u):=λ S Z δ ρ y Q hE e hq=>by
 obtain⟨xs,e1,e2⟩:=zOb e;refine h S Z δ ρ xs _ hE e1 λ ds S1 s1 r1=>?_;exact hf S1 Z xs y ds Q (hE.grow s1).zd r1 e2 λ c S' s r=>hq c S' (s1.trans s) (Cl.cl s1 r)
@[simp] noncomputable def wL:List T->Option T
 | [.str z]=>if z.length<=sizeLine then some (.int z.length) else none
 | [y]=>(xS y).map λ ts=>.int ts.length
 | _=>none
theorem vw {S:SS}{Z:Addr->Prop}{y:T}{ds:List D}(h:mf S Z [y] ds):∃ d,ds=[d]/\Vw S Z y d:=by
 obtain⟨c,cs,rfl,h1,h2⟩:=h;cases h2;exact⟨c,rfl,h1⟩
theorem fW {S:SS}{Z:Addr->Prop}{y z:T}{ds:List D}(h:mf S Z [y,z] ds):∃ d e,ds=[d,e]/\Vw S Z y d/\Vw S Z z e:=by
 obtain⟨c,cs,rfl,h1,c2,cs2,rfl,h2,h3⟩:=h;cases h3;exact⟨c,c2,rfl,h1,h2⟩
theorem uV:vS zM wL uj:=λ S Z ys z ds Q hz hv e hq=>by
 unfold wL at e;split at e
 .obtain⟨d,rfl,h1⟩:=vw hv;split at e
  .rename_i hl;cases e;cases h1.str;exact⟨hl,hq _ S (.refl S) (Cl.of (λ _=>nofun) wY)⟩
  .cases e
 .obtain⟨d,rfl,h1⟩:=vw hv;obtain⟨ts,e1,rfl⟩:=zOm e;obtain⟨es,h2,h3⟩:=h1.seq e1;refine SV h2 ?_;rw[h3.len];exact hq _ S (.refl S) (Cl.of (λ _=>nofun) wY)
 .cases e
@[simp] noncomputable def listS:List T->Option T
 | [y]=>(xS y).map .lst
 | _=>none
theorem lX:vS zM listS ui:=λ S Z ys z ds Q hz hv e hq=>by
 unfold listS at e;split at e
 .obtain⟨d,rfl,h1⟩:=vw hv;obtain⟨ts,e1,rfl⟩:=zOm e;obtain⟨es,h2,h3⟩:=h1.seq e1;exact SU h2 λ p hp=>hq _ _ (.new hp _) (sH hz hp h3)
 .cases e
@[simp] noncomputable def rp:List T->Option T
 | [y]=>(xS y).map .tup
 | _=>none
theorem nq:vS zM rp uh:=λ S Z ys z ds Q hz hv e hq=>by
 unfold rp at e;split at e
 .rename_i y;obtain⟨d,rfl,h1⟩:=vw hv;obtain⟨ts,e1,rfl⟩:=zOm e;obtain⟨es,h2,h3⟩:=h1.seq e1;have k:Q (.tup es) S:=hq _ S (.refl S) (Cl.of (λ _=>nofun) (qA h3));unfold zZ at h2;split at h2
  .cases h2;exact k
  .cases h2;exact k
  .split at h2
   .rename_i q;cases h2;exact SR q k
   .cases h2
  .cases h2
 .cases e
@[simp] noncomputable def sR (g:Int->Int->Int):List T->Option T
 | [.int i,.int j]=>some (.int (g i j))
 | _=>none
theorem b7 {g:Int->Int->Int}:vS zM (sR g) (vJ λ i j=>.int (g i j)):=λ S Z ys z ds Q hz hv e hq=>by
 unfold sR at e;split at e
 .obtain⟨d,d',rfl,h1,h2⟩:=fW hv;cases e;cases h1.int;cases h2.int;exact hq _ S (.refl S) (Cl.of (λ _=>nofun) wY)
 .cases e
@[simp] noncomputable def rO:List T->Option T:=sR λ i j=>if j>i then j else i
@[simp] noncomputable def lJ:List T->Option T:=sR λ i j=>if j<i then j else i
noncomputable def rb:List T->Option (List Bool)
 | []=>some []
 | .bl b::ts=>(rb ts).map (b::·)
 | _::_=>none
theorem aN:∀ {ts:List T}{bs:List Bool},rb ts=some bs->ts=bs.map T.bl
 | [],bs,h=>by cases h;rfl
 | .bl b::ts,bs,h=>by
  unfold rb at h;obtain⟨cs,h1,rfl⟩:=zOm h;rw[List.map_cons,<- aN h1]
 | .zk::ts,bs,h=>by cases h
 | .int _::ts,bs,h=>by cases h
 | .str _::ts,bs,h=>by cases h
 | .tup _::ts,bs,h=>by cases h
 | .lst _::ts,bs,h=>by cases h
theorem Qi (bs:List Bool):rb (bs.map T.bl)=some bs:=by
 induction bs with
 | nil=>rfl
 | cons b bs ih=>rw[List.map_cons];unfold rb;rw[ih];rfl
@[simp] noncomputable def kz (g:List Bool->Bool):List T->Option T
 | [.lst ts]=>(rb ts).map λ bs=>.bl (g bs)
 | _=>none
def vK (g:List Bool->Bool):xM:=λ ds S Q=>match ds with
 | [.tup _]=>False
 | [d]=>∃ bs:List Bool,zZ d S=some (bs.map D.bl)/\Q (.bl (g bs)) S
 | _=>False
theorem b8 {g:List Bool->Bool}:vS zM (kz g) (vK g):=λ S Z ys z ds Q hz hv e hq=>by
 unfold kz at e;split at e
 .obtain⟨d,rfl,h1⟩:=vw hv;obtain⟨bs,e1,rfl⟩:=zOm e;cases aN e1;obtain⟨es,h2,h3⟩:=h1.seq rfl;cases h3.aO;have key:∃ bs:List Bool,zZ d S=some (bs.map D.bl)/\Q (.bl (g bs)) S:=⟨bs,h2,hq _ S (.refl S) (Cl.of (λ _=>nofun) wI)⟩
  obtain⟨_,q | ⟨a,q,_⟩,_⟩:=h1.lst
  .subst q;exact key
  .subst q;exact key
 .cases e
end L5
namespace L5
open PySem L2 L3
structure FR (S0:SS) (Z0:Addr->Prop) (S:SS) (Z:Addr->Prop) (δ:yn) (ρ:Ev):Prop where
 er:ER S Z δ ρ
 len:δ.length=ρ.length
 sx:Sx S0 S
 z0:∀ a,Z0 a->S0 a≠none
 zz:∀ a,Z0 a->Z a
 zn:∀ a,Z a->Z0 a\/S0 a=none
 fr:∀ (i:Nat) ts p,ρ[i]?=some (some (.own ts))->δ[i]?=some (some (.ref p))->S0 p=none
 dj:∀ (i j:Nat) ts us p,i≠j->ρ[i]?=some (some (.own ts))->ρ[j]?=some (some (.own us))->δ[i]?=some (some (.ref p))->δ[j]?=some (some (.ref p))->False
theorem yW {α:Type}{l:List α}{i j:Nat}{a b:α}(h:(l.set i a)[j]?=some b):(i=j/\i<l.length/\b=a)\/(i≠j/\l[j]?=some b):=by
 rw[List.getElem?_set] at h;by_cases e:i=j
 .subst e;rw[if_pos rfl] at h;by_cases hl:i<l.length
  .rw[if_pos hl] at h;cases h;exact .inl ⟨rfl,hl,rfl⟩
  .rw[if_neg hl] at h;cases h
 .rw[if_neg e] at h;exact .inr ⟨e,h⟩
theorem vc {α:Type}{l:List α}{i j:Nat}{a:α}(h:i≠j):(l.set i a)[j]?=l[j]?:=by rw[List.getElem?_set,if_neg h]
theorem pj {α:Type}{l:List α}{i:Nat}{a:α}(h:i<l.length):(l.set i a)[i]?=some a:=by rw[List.getElem?_set,if_pos rfl,if_pos h]
section
variable {S0 S S':SS}{Z0 Z:Addr->Prop}{δ:yn}{ρ:Ev}{y:T}{d:D}
theorem FR.grow (h:FR S0 Z0 S Z δ ρ) (s:Sx S S'):FR S0 Z0 S' Z δ ρ:=⟨h.er.grow s,h.len,h.sx.trans s,h.z0,h.zz,h.zn,h.fr,h.dj⟩
theorem FR.uO (h:FR S0 Z0 S Z δ ρ) (i:Nat) (r:Sn (zT S Z) y d):FR S0 Z0 S Z (δ.set i (some d)) (ρ.set i (some (.im y))):=by
 refine⟨⟨h.er.zd,λ j t e=>?_,λ j ts e=>?_⟩,by simp[h.len],h.sx,h.z0,h.zz,h.zn,λ j ts p e e'=>?_,λ j k ts us p n e1 e2 e3 e4=>?_⟩
 .rcases yW e with ⟨rfl,hl,e⟩ | ⟨n,e⟩
  .cases e;exact⟨d,pj (by rw[h.len];exact hl),r⟩
  .rw[vc n];exact h.er.im j t e
 .rcases yW e with ⟨rfl,hl,e⟩ | ⟨n,e⟩
  .cases e
  .rw[vc n];exact h.er.ow j ts e
 .rcases yW e with ⟨rfl,hl,e⟩ | ⟨n,e⟩
  .cases e
  .rw[vc n] at e';exact h.fr j ts p e e'
 .rcases yW e1 with ⟨rfl,hl,e⟩ | ⟨n1,e1⟩
  .cases e
  rcases yW e2 with ⟨rfl,hl,e⟩ | ⟨n2,e2⟩
  .cases e
  rw[vc n1] at e3;rw[vc n2] at e4;exact h.dj j k ts us p n e1 e2 e3 e4
theorem FR.eS {ts:C}{ds:O}{p:Addr}(h:FR S0 Z0 S Z δ ρ) (s:Sx S S') (i:Nat) (hp:S p=none) (hd:S' p=some ds) (r:tq (zT S' λ a=>Z a\/a=p) ts ds):
  FR S0 Z0 S' (λ a=>Z a\/a=p) (δ.set i (some (.ref p))) (ρ.set i (some (.own ts))):=by
 have np:∀ (j:Nat) us q,ρ[j]?=some (some (.own us))->δ[j]?=some (some (.ref q))->q≠p:=λ j us q e e' z=>by
  subst z;obtain⟨p',ds',h1,h2,_⟩:=h.er.ow j us e;rw[e'] at h1;cases h1;rw[hp] at h2;cases h2
 refine⟨⟨λ a z=>?_,λ j t e=>?_,λ j us e=>?_⟩,by simp[h.len],h.sx.trans s,h.z0,λ a z=>.inl (h.zz a z),λ a z=>z.elim (h.zn a) (λ q=>.inr (by subst q;exact h.sx.none hp)),λ j us q e e'=>?_,λ j k us vs q n e1 e2 e3 e4=>?_⟩
 .rcases z with z | rfl
  .exact λ q=>h.er.zd a z (s.none q)
  .rw[hd];nofun
 .rcases yW e with ⟨rfl,hl,e⟩ | ⟨n,e⟩
  .cases e
  .rw[vc n];obtain⟨d,h1,h2⟩:=h.er.im j t e;exact⟨d,h1,Sn.sx (pb s hp) t h2⟩
 .rcases yW e with ⟨rfl,hl,e⟩ | ⟨n,e⟩
  .cases e;exact⟨p,ds,pj (by rw[h.len];exact hl),hd,r,.inr rfl⟩
  .rw[vc n];obtain⟨q,es,h1,h2,h3,h4⟩:=h.er.ow j us e;exact⟨q,es,h1,s _ _ h2,tq.sx (pb s hp) h3,.inl h4⟩
 .rcases yW e with ⟨rfl,hl,e⟩ | ⟨n,e⟩
  .rw[pj (by rw[h.len];exact hl)] at e';cases e';exact h.sx.none hp
  .rw[vc n] at e';exact h.fr j us q e e'
 .rcases yW e1 with ⟨rfl,hl,e⟩ | ⟨n1,e1⟩
  .rcases yW e2 with ⟨rfl,_,_⟩ | ⟨n2,e2⟩
   .exact n rfl
   .rw[pj (by rw[h.len];exact hl)] at e3;cases e3;rw[vc n2] at e4;exact np k vs p e2 e4 rfl
  .rcases yW e2 with ⟨rfl,hl,_⟩ | ⟨n2,e2⟩
   .rw[pj (by rw[h.len];exact hl)] at e4;cases e4;rw[vc n1] at e3;exact np j us p e1 e3 rfl
   .rw[vc n1] at e3;rw[vc n2] at e4;exact h.dj j k us vs q n e1 e2 e3 e4
theorem FR.forget (h:FR S0 Z0 S Z δ ρ) (i:Nat):FR S0 Z0 S Z δ (ρ.set i none):=by
 refine⟨⟨h.er.zd,λ j t e=>?_,λ j ts e=>?_⟩,by simp[h.len],h.sx,h.z0,h.zz,h.zn,λ j ts p e e'=>?_,λ j k ts us p n e1 e2 e3 e4=>?_⟩
 .rcases yW e with ⟨rfl,hl,e⟩ | ⟨n,e⟩
  .cases e
  .exact h.er.im j t e
 .rcases yW e with ⟨rfl,hl,e⟩ | ⟨n,e⟩
  .cases e
  .exact h.er.ow j ts e
 .rcases yW e with ⟨rfl,hl,e⟩ | ⟨n,e⟩
  .cases e
  .exact h.fr j ts p e e'
 .rcases yW e1 with ⟨rfl,hl,e⟩ | ⟨n1,e1⟩
  .cases e
  rcases yW e2 with ⟨rfl,hl,e⟩ | ⟨n2,e2⟩
  .cases e
  exact h.dj j k ts us p n e1 e2 e3 e4
@[simp] noncomputable def yS (is:List Nat) (ρ:Ev):Ev:=is.foldl (fun ρ i=>ρ.set i none) ρ
theorem FR.yS:∀ (is:List Nat) {ρ:Ev},FR S0 Z0 S Z δ ρ->FR S0 Z0 S Z δ (yS is ρ)
 | [],_,h=>h
 | i::is,_,h=>FR.yS is (h.forget i)
theorem FR.freeze {ts:List T}{p:Addr}(h:FR S0 Z0 S Z δ ρ) (i:Nat) (e:ρ[i]?=some (some (.own (.lst ts)))) (ed:δ[i]?=some (some (.ref p))):
  FR S0 Z0 S (λ a=>Z a/\a≠p) δ (ρ.set i (some (.im (.lst ts))))/\Sn (zT S λ a=>Z a/\a≠p) (.lst ts) (.ref p):=by
 obtain⟨p',o,h1,h2,h3,h4⟩:=h.er.ow i _ e;rw[ed] at h1;cases h1;obtain⟨ds,rfl⟩:∃ ds,o=.lst ds:=by
  cases o with
  | lst ds=>exact⟨ds,rfl⟩
  | yg _=>exact h3.elim
 replace h3:zo (zT S Z) ts ds:=h3;have hS:Sn (zT S λ a=>Z a/\a≠p) (.lst ts) (.ref p):=by
  simp only[Sn];exact⟨ds,.inr ⟨p,rfl,by rw[ug (λ z=>z.2 rfl)];exact h2⟩,zo.sx (uU λ a z=>z.1) ts h3⟩
 refine⟨?_,hS⟩;refine⟨⟨λ a z=>h.er.zd a z.1,λ j t e'=>?_,λ j us e'=>?_⟩,by simp[h.len],h.sx,h.z0,λ a z=>⟨h.zz a z,λ q=>?_⟩,λ a z=>h.zn a z.1,λ j us q e' ed'=>?_,λ j k us vs q n e1 e2 e3 e4=>?_⟩
 .rcases yW e' with ⟨rfl,hl,e'⟩ | ⟨n,e'⟩
  .cases e';exact⟨_,ed,hS⟩
  .obtain⟨d,g1,g2⟩:=h.er.im j t e';exact⟨d,g1,Sn.sx (uU λ a z=>z.1) t g2⟩
 .rcases yW e' with ⟨rfl,hl,e'⟩ | ⟨n,e'⟩
  .cases e'
  .obtain⟨q,es,g1,g2,g3,g4⟩:=h.er.ow j us e';exact⟨q,es,g1,g2,tq.sx (uU λ a z=>z.1) g3,g4,λ z=>by subst z;exact h.dj i j _ us q n e e' ed g1⟩
 .subst q;exact h.z0 a z (h.fr i _ a e ed)
 .rcases yW e' with ⟨rfl,hl,e'⟩ | ⟨n,e'⟩
  .cases e'
  .exact h.fr j us q e' ed'
 .rcases yW e1 with ⟨rfl,hl,e⟩ | ⟨n1,e1⟩
  .cases e
  rcases yW e2 with ⟨rfl,hl,e⟩ | ⟨n2,e2⟩
  .cases e
  exact h.dj j k us vs q n e1 e2 e3 e4
theorem FR.mut {ts us:C}{es:O}{p:Addr}(h:FR S0 Z0 S Z δ ρ) (i:Nat) (e:ρ[i]?=some (some (.own ts))) (ed:δ[i]?=some (some (.ref p))) (r:tq (zT S Z) us es):
  FR S0 Z0 (ups S p es) Z δ (ρ.set i (some (.own us))):=by
 obtain⟨p',ds,h1,h2,h3,h4⟩:=h.er.ow i ts e;rw[ed] at h1;cases h1;have hh:zT (ups S p es) Z=zT S Z:=Sg h4;have hpn:=h.fr i ts p e ed;refine⟨⟨λ a z=>?_,λ j t e'=>?_,λ j vs e'=>?_⟩,by simp[h.len],λ b o q=>?_,h.z0,h.zz,h.zn,λ j vs q e' ed'=>?_,λ j k vs ws q n e1 e2 e3 e4=>?_⟩
 .by_cases hp:a=p
  .subst hp;rw[sr];nofun
  .rw[uI hp];exact h.er.zd a z
 .rw[hh];rcases yW e' with ⟨rfl,hl,e'⟩ | ⟨n,e'⟩
  .cases e'
  .exact h.er.im j t e'
 .rw[hh];rcases yW e' with ⟨rfl,hl,e'⟩ | ⟨n,e'⟩
  .cases e';exact⟨p,es,ed,sr,r,h4⟩
  .obtain⟨q,es',g1,g2,g3,g4⟩:=h.er.ow j vs e';refine⟨q,es',g1,?_,g3,g4⟩;rw[uI (λ z=>by subst z;exact h.dj i j ts vs q n e e' ed g1)];exact g2
 .rw[uI (λ z=>by subst z;rw[hpn] at q;cases q)];exact h.sx b o q
 .rcases yW e' with ⟨rfl,hl,_⟩ | ⟨n,e'⟩
  .rw[ed] at ed';cases ed';exact hpn
  .exact h.fr j vs q e' ed'
 .rcases yW e1 with ⟨rfl,hl,_⟩ | ⟨n1,e1⟩
  .rcases yW e2 with ⟨rfl,hl,_⟩ | ⟨n2,e2⟩
   .exact n rfl
   .exact h.dj _ k ts ws q n e e2 e3 e4
  .rcases yW e2 with ⟨rfl,hl,_⟩ | ⟨n2,e2⟩
   .exact h.dj j _ vs ts q n e1 e e3 e4
   .exact h.dj j k vs ws q n e1 e2 e3 e4
noncomputable def jU (S0 S:SS) (Z:Addr->Prop):SS:=open Classical in λ a=>if S0 a=none/\Z a then none else S a
theorem lj {a:Addr}(h:¬ (S0 a=none/\Z a)):jU S0 S Z a=S a:=if_neg h
theorem jT {a:Addr}(h:S0 a=none/\Z a):jU S0 S Z a=none:=if_pos h
theorem FR.rebase (h:FR S0 Z0 S Z δ ρ):∃ S1,Sx S0 S1/\FR S1 Z0 S Z δ ρ/\Sx (zT S Z) S1:=by
 refine⟨jU S0 S Z,λ b o q=>?_,⟨h.er,h.len,λ b o q=>?_,λ a z=>?_,h.zz,λ a z=>?_,λ i ts p e ed=>?_,h.dj⟩,λ b o q=>?_⟩
 .rw[lj (λ z=>by rw[z.1] at q;cases q)];exact h.sx _ _ q
 .by_cases w:S0 b=none/\Z b
  .rw[jT w] at q;cases q
  .rw[lj w] at q;exact q
 .rw[lj (λ q=>h.z0 a z q.1)];exact h.er.zd a (h.zz a z)
 .rcases h.zn a z with w | w
  .exact .inl w
  .exact .inr (jT ⟨w,z⟩)
 .obtain⟨p',ds,h1,h2,h3,h4⟩:=h.er.ow i ts e;rw[ed] at h1;cases h1;exact jT ⟨h.fr i ts p e ed,h4⟩
 .obtain⟨q1,q2⟩:=u6 q;rw[lj (λ z=>q1 z.2)];exact q2
theorem FR.back {S1:SS}(h:FR S1 Z0 S Z δ ρ) (s:Sx S0 S1) (z0:∀ a,Z0 a->S0 a≠none):FR S0 Z0 S Z δ ρ:=⟨h.er,h.len,s.trans h.sx,z0,h.zz,λ a z=>(h.zn a z).imp id s.none,λ i ts p e ed=>s.none (h.fr i ts p e ed),h.dj⟩
theorem FR.Xj {S1:SS}{Z1:Addr->Prop}(h:FR S0 Z0 S Z δ ρ) (b:Sx (zT S1 Z1) S0) (zz:∀ a,Z0 a->Z1 a):Sx (zT S1 Z1) (zT S Z):=λ a o q=>by
 have q0:=b _ _ q;obtain⟨q1,q2⟩:=u6 q;rw[ug]
 .exact h.sx _ _ q0
 .intro z;rcases h.zn a z with w | w
  .exact q1 (zz a w)
  .rw[w] at q0;cases q0
end
inductive Out where
 | nx (ρ:Ev) | rt (t:T) | bk (ρ:Ev) | ct (ρ:Ev)
abbrev Sm:=Ev->Option Out
def Qw (R:Rk) (S0:SS) (Z0:Addr->Prop) (o:Out) (E:sj):Prop:=match o with
 | .nx ρ=>∀ S Z δ,FR S0 Z0 S Z δ ρ->E.nx δ S
 | .bk ρ=>∀ S Z δ,FR S0 Z0 S Z δ ρ->E.bk δ S
 | .ct ρ=>∀ S Z δ,FR S0 Z0 S Z δ ρ->E.ct δ S
 | .rt y=>∀ d S,Sx S0 S->R S0 S Z0 y d->E.rt d S
def yv (R:Rk) (g:Sm) (t:yP):Prop:=∀ S0 Z0 S Z δ ρ o E,FR S0 Z0 S Z δ ρ->g ρ=some o->Qw R S0 Z0 o E->t E δ S
class Lo (R:Rk):Prop extends Cl R where
 lo:∀ {S0 S S':SS}{Z0 Z:Addr->Prop}{y:T}{d:D},Sx S0 S->(∀ a,Z0 a->Z a)->R S S' Z y d->R S0 S' Z0 y d
instance:Lo uu:=⟨λ _ z h=>Sn.sx (uU z) _ h⟩
instance:Lo zM:=⟨λ s z h=>⟨Sn.sx (uU z) _ h.1,λ ts e=>by
 obtain⟨p,ds,h1,h2,h3,h4⟩:=h.2 ts e;exact⟨p,ds,h1,s.none h2,h3,zo.sx (uU λ a q=>q.imp (z a) id) ts h4⟩⟩⟩
@[simp] noncomputable def zx (g h:Sm):Sm:=fun ρ=>(g ρ).bind λ o=>match o with
 | .nx ρ'=>h ρ'
 | o=>some o
@[simp] noncomputable def xn:Sm:=fun ρ=>some (.nx ρ)
@[simp] noncomputable def zS (i:Nat) (f:Ev->Option T):Sm:=fun ρ=>(f ρ).map λ y=>.nx (ρ.set i (some (.im y)))
@[simp] noncomputable def vN (i:Nat) (f:Ev->Option T):Sm:=fun ρ=>(f ρ).bind λ y=>match y with
 | .lst ts=>some (.nx (ρ.set i (some (.own (.lst ts)))))
 | y=>some (.nx (ρ.set i (some (.im y))))
@[simp] noncomputable def nI (f:Ev->Option T):Sm:=fun ρ=>(f ρ).map λ _=>.nx ρ
@[simp] noncomputable def retS (f:Ev->Option T):Sm:=fun ρ=>(f ρ).map .rt
@[simp] noncomputable def qE (i:Nat):Sm:=fun ρ=>match ρ[i]? with
 | some (some (.own (.lst ts)))=>some (.rt (.lst ts))
 | _=>none
@[simp] noncomputable def xo (c:Ev->Option Bool) (g h:Sm):Sm:=fun ρ=>(c ρ).bind λ b=>if b=true then g ρ else h ρ
@[simp] noncomputable def gj (i:Nat) (ρ:Ev):Ev:=match ρ[i]? with
 | some (some (.own (.lst ts)))=>ρ.set i (some (.im (.lst ts)))
 | _=>ρ
@[simp] noncomputable def gi (i:Nat) (g:Sm):Sm:=fun ρ=>g (gj i ρ)
section
variable {R:Rk}{g h:Sm}{t u:yP}{f:Ev->Option T}{te:zC}
theorem zF (hg:yv R g t) (hh:yv R h u):yv R (zx g h) (p8 t u):=λ S0 Z0 S Z δ ρ o E F e P=>by
 obtain⟨o1,e1,e2⟩:=zOb e;refine hg S0 Z0 S Z δ ρ o1 { E with nx:=u E } F e1 ?_;cases o1 with
 | nx ρ1=>exact λ S1 Z1 δ1 F1=>hh S0 Z0 S1 Z1 δ1 ρ1 o E F1 e2 P
 | rt y=>cases e2;exact P
 | bk y=>cases e2;exact P
 | ct y=>cases e2;exact P
theorem xD:yv R xn ao:=λ S0 Z0 S Z δ ρ o E F e P=>by cases e;exact P S Z δ F
theorem yc (i:Nat) (hf:vt f te):yv R (zS i f) (vo te (hName i)):=λ S0 Z0 S Z δ ρ o E F e P=>by
 obtain⟨y,e1,rfl⟩:=zOm e;exact hf S Z δ ρ y _ F.er e1 λ d S1 s1 r1=>P S1 Z _ ((F.grow s1).uO i r1)
theorem uc (i:Nat) (hf:xI f te):yv R (vN i f) (vo te (hName i)):=λ S0 Z0 S Z δ ρ o E F e P=>by
 obtain⟨y,e1,e2⟩:=zOb e;refine hf S Z δ ρ y _ F.er e1 λ d S1 s1 r1=>?_;cases y with
 | lst ts=>
  cases e2;obtain⟨p,ds,rfl,h1,h2,h3⟩:=r1.2 ts rfl;exact P S1 _ _ (F.eS (ts:=.lst ts) (ds:=.lst ds) s1 i h1 h2 h3)
 | zk=>cases e2;exact P S1 Z _ ((F.grow s1).uO i r1.1)
 | bl _=>cases e2;exact P S1 Z _ ((F.grow s1).uO i r1.1)
 | int _=>cases e2;exact P S1 Z _ ((F.grow s1).uO i r1.1)
 | str _=>cases e2;exact P S1 Z _ ((F.grow s1).uO i r1.1)
 | tup _=>cases e2;exact P S1 Z _ ((F.grow s1).uO i r1.1)
 | zY=>cases e2;exact P S1 Z _ ((F.grow s1).uO i r1.1)
theorem lD (hf:yA f te):yv R (nI f) (nQ te):=λ S0 Z0 S Z δ ρ o E F e P=>by
 obtain⟨y,e1,rfl⟩:=zOm e;exact hf S Z δ ρ y _ F.er e1 λ d S1 s1 r1=>P S1 Z _ (F.grow s1)
theorem yq [Lo R] (hf:wa R f te):yv R (retS f) (gz te):=λ S0 Z0 S Z δ ρ o E F e P=>by
 obtain⟨y,e1,rfl⟩:=zOm e;exact hf S Z δ ρ y _ F.er e1 λ d S1 s1 r1=>P d S1 (F.sx.trans s1) (Lo.lo F.sx F.zz r1)
theorem lC (i:Nat):yv zM (qE i) (gz (y8 i)):=λ S0 Z0 S Z δ ρ o E F e P=>by
 unfold qE at e;split at e
 .rename_i ts h;cases e;obtain⟨p,ob,h1,h2,h3,h4⟩:=F.er.ow i _ h;obtain⟨ds,rfl⟩:∃ ds,ob=.lst ds:=by
   cases ob with
   | lst ds=>exact⟨ds,rfl⟩
   | yg _=>exact h3.elim
  replace h3:zo (zT S Z) ts ds:=h3;have hn:=F.fr i _ p h h1;have nz:¬ Z0 p:=λ z=>F.z0 p z hn;show y8 i δ S E.rt;unfold y8;rw[h1];refine P _ S F.sx ⟨?_,λ us e=>?_⟩
  .simp only[Sn];exact⟨ds,.inr ⟨p,rfl,by rw[ug nz];exact h2⟩,zo.sx (uU F.zz) ts h3⟩
  .cases e;exact⟨p,ds,rfl,hn,h2,zo.sx (uU λ a q=>q.elim (F.zz a) λ q=>q▸h4) ts h3⟩
 .cases e
theorem xE {c:Ev->Option Bool}{tc:yJ}(hc:vh c tc) (hg:yv R g t) (hh:yv R h u):yv R (xo c g h) (aw tc t u):=λ S0 Z0 S Z δ ρ o E F e P=>by
 obtain⟨b,e1,e2⟩:=zOb e;refine hc S Z δ ρ b _ F.er e1 λ S1 s1=>?_;split at e2
 .rename_i hb;rw[if_pos hb];exact hg S0 Z0 S1 Z δ ρ o E (F.grow s1) e2 P
 .rename_i hb;rw[if_neg hb];exact hh S0 Z0 S1 Z δ ρ o E (F.grow s1) e2 P
theorem FR.fz {S0 S:SS}{Z0 Z:Addr->Prop}{δ:yn}{ρ:Ev}(F:FR S0 Z0 S Z δ ρ) (i:Nat):∃ Z',FR S0 Z0 S Z' δ (gj i ρ):=by
 unfold gj;split
 .rename_i ts h;obtain⟨p,ds,h1,_⟩:=F.er.ow i _ h;exact⟨_,(F.freeze i h h1).1⟩
 .exact⟨Z,F⟩
theorem cm (i:Nat) (hg:yv R g t):yv R (gi i g) t:=λ S0 Z0 S Z δ ρ o E F e P=>by
 obtain⟨Z',F'⟩:=F.fz i;exact hg S0 Z0 S Z' δ _ o E F' e P
def mj (g:T->Ev->Option Ev) (t:xq):Prop:=∀ S0 Z0 S Z δ ρ ρ' y d Q,FR S0 Z0 S Z δ ρ->Sn (zT S Z) y d->g y ρ=some ρ'->(∀ δ',FR S0 Z0 S Z δ' ρ'->Q δ' S)->t d δ S Q
def kI (g:List T->Ev->Option Ev) (t:wU):Prop:=∀ S0 Z0 S Z δ ρ ρ' ys ds Q,FR S0 Z0 S Z δ ρ->zo (zT S Z) ys ds->g ys ρ=some ρ'->(∀ δ',FR S0 Z0 S Z δ' ρ'->Q δ' S)->t ds δ S Q
@[simp] noncomputable def zL (i:Nat):T->Ev->Option Ev:=λ y ρ=>some (ρ.set i (some (.im y)))
@[simp] noncomputable def ud:List T->Ev->Option Ev
 | [],ρ=>some ρ
 | _::_,_=>none
@[simp] noncomputable def xp (g:T->Ev->Option Ev) (h:List T->Ev->Option Ev):List T->Ev->Option Ev
 | y::ys,ρ=>(g y ρ).bind fun ρ'=>h ys ρ'
 | [],_=>none
@[simp] noncomputable def vi (n:Nat) (g:List T->Ev->Option Ev):T->Ev->Option Ev
 | .tup ys,ρ=>if ys.length=n then g ys ρ else none
 | _,_=>none
theorem xU (i:Nat):mj (zL i) (hName i):=λ S0 Z0 S Z δ ρ ρ' y d Q F r e hq=>by cases e;exact hq _ (F.uO i r)
theorem i3:kI ud hG:=λ S0 Z0 S Z δ ρ ρ' ys ds Q F r e hq=>by
 cases ys with
 | nil=>simp only[zo] at r;subst r;cases e;exact⟨rfl,hq _ F⟩
 | cons _ _=>cases e
theorem rL {g:T->Ev->Option Ev}{h:List T->Ev->Option Ev}{t:xq}{u:wU}(hg:mj g t) (hh:kI h u):kI (xp g h) (hJ t u):=λ S0 Z0 S Z δ ρ ρ' ys ds Q F r e hq=>by
 cases ys with
 | nil=>cases e
 | cons y ys=>
  simp only[zo] at r;obtain⟨c,cs,rfl,r1,r2⟩:=r;obtain⟨ρ1,e1,e2⟩:=zOb e;exact hg S0 Z0 S Z δ ρ ρ1 y c _ F r1 e1 fun δ1 F1=>hh S0 Z0 S Z δ1 ρ1 ρ' ys cs Q F1 r2 e2 hq
theorem i4 {n:Nat}{g:List T->Ev->Option Ev}{t:wU}(hg:kI g t):mj (vi n g) (lW n t):=λ S0 Z0 S Z δ ρ ρ' y d Q F r e hq=>by
 cases y with
 | tup ys=>
  simp only[Sn] at r;obtain⟨ds,rfl,r⟩:=r;simp only[vi] at e;split at e
  .rename_i hl;exact⟨by rw[r.len];exact hl,hg S0 Z0 S Z δ ρ ρ' ys ds Q F r e hq⟩
  .cases e
 | zk=>cases e
 | bl _=>cases e
 | int _=>cases e
 | str _=>cases e
 | lst _=>cases e
 | zY=>cases e
@[simp] noncomputable def eA (f:Ev->Option T) (g:T->Ev->Option Ev):Sm:=fun ρ=>(f ρ).bind λ y=>(g y ρ).map .nx
theorem VO {g:T->Ev->Option Ev}{tg:xq}(hf:vt f te) (hg:mj g tg):yv R (eA f g) (vo te tg):=λ S0 Z0 S Z δ ρ o E F e P=>by
 obtain⟨y,e1,e2⟩:=zOb e;obtain⟨ρ',e3,rfl⟩:=zOm e2;exact hf S Z δ ρ y _ F.er e1 λ d S1 s1 r1=>hg S0 Z0 S1 Z δ ρ ρ' y d _ (F.grow s1) r1 e3 fun δ' F'=>P S1 Z δ' F'
def ql (free:Bool) (f:Ev->Option (List T)) (ti:wR):Prop:=∀ S Z δ ρ ts Q,ER S Z δ ρ->f ρ=some ts->(∀ I S',Sx S S'->zo (zT S' Z) ts I.items->(∀ S'',Sx (if free=true then zT S' Z else S') S''->I.keep S'')->Q I S')->ti δ S Q
@[simp] noncomputable def xG (f:Ev->Option T):Ev->Option (List T):=fun ρ=>(f ρ).bind xS
theorem sN {f:Ev->Option T}{te:zC}(hf:yA f te):ql false (xG f) (iW te):=λ S Z δ ρ ts Q hE e hq=>by
 obtain⟨y,e1,e2⟩:=zOb e;refine hf S Z δ ρ y _ hE e1 λ d S1 s1 r1=>?_;cases y with
 | tup us=>
  cases e2;obtain⟨ds,rfl,h2⟩:=Vw.tup r1;exact hq _ S1 s1 h2 λ _ _=>trivial
 | lst us=>
  cases e2;obtain⟨ds,rfl | ⟨a,rfl,h1⟩,h2⟩:=Vw.lst r1
  .exact hq _ S1 s1 h2 λ _ _=>trivial
  .dsimp only;rw[h1];exact hq ⟨ds,_⟩ S1 s1 h2 λ S'' s=>s _ _ h1
 | zk=>cases e2
 | bl _=>cases e2
 | int _=>cases e2
 | str _=>cases e2
 | zY=>cases e2
theorem tG {f:Ev->Option T}{te:zC}(hf:vt f te):ql true (xG f) (iW te):=λ S Z δ ρ ts Q hE e hq=>by
 obtain⟨y,e1,e2⟩:=zOb e;refine hf S Z δ ρ y _ hE e1 λ d S1 s1 r1=>?_;cases y with
 | tup us=>
  cases e2;obtain⟨ds,rfl,h2⟩:=Vw.tup (.inl r1);exact hq _ S1 s1 h2 λ _ _=>trivial
 | lst us=>
  cases e2;have r2:=r1;unfold uu at r2;simp only[Sn] at r2;obtain⟨ds,⟨rfl,_⟩ | ⟨a,rfl,h1⟩,h2⟩:=r2
  .exact hq _ S1 s1 h2 λ _ _=>trivial
  .dsimp only;rw[(u6 h1).2];exact hq ⟨ds,_⟩ S1 s1 h2 λ S'' s=>s _ _ h1
 | zk=>cases e2
 | bl _=>cases e2
 | int _=>cases e2
 | str _=>cases e2
 | zY=>cases e2
noncomputable def rangeT (lo:Int) (n:Nat):List T:=(List.range n).map λ(k:Nat)=>T.int (lo+(k:Int))
theorem eN {S:SS}(lo:Int) (n:Nat):zo S (rangeT lo n) (vz lo n):=by
 unfold rangeT vz
 induction List.range n with
 | nil=>exact .nil
 | cons k l ih=>exact .cons wY ih
noncomputable def inR (j:Int):Bool:=decide (-100000000<=j)&&decide (j<=100000000)
theorem br {j:Int}:inR j=true↔-100000000<=j/\j<=100000000:=by simp[inR]
theorem Sb {j:Int}(h:inR j=true):-(2 ^ 62)<=j/\j<2 ^ 62:=by have:=br.mp h;omega
noncomputable def sG:List T->Option (List T)
 | [.int j]=>if inR j=true then some (rangeT 0 j.toNat) else none
 | _=>none
@[simp] noncomputable def vD (F:List T->Option (List T)) (g:Ev->Option (List T)):Ev->Option (List T):=fun ρ=>(g ρ).bind F
theorem oJ {b:Bool}{g:Ev->Option (List T)}{tA:y6}(h:qm g tA):ql b (vD sG g) (iX tA):=λ S Z δ ρ ts Q hE e hq=>by
 obtain⟨ys,e1,e2⟩:=zOb e;refine h S Z δ ρ ys _ hE e1 λ ds S1 s1 r1=>?_;unfold sG at e2;split at e2
 .split at e2
  .rename_i hc;cases e2;obtain⟨d,rfl,h1⟩:=vw r1;cases h1.int;exact⟨Sb hc,hq _ S1 s1 (eN _ _) λ _ _=>trivial⟩
  .cases e2
 .cases e2
noncomputable def wD (is:List Nat) (g:T->Ev->Option Ev) (b:Sm):List T->Ev->Option Out
 | [],ρ=>some (.nx (yS is ρ))
 | y::ys,ρ=>(g y (yS is ρ)).bind fun ρ1=>(b ρ1).bind λ o=>match o with
  | .nx ρ2=>wD is g b ys ρ2
  | .ct ρ2=>wD is g b ys ρ2
  | .bk ρ2=>some (.nx (yS is ρ2))
  | .rt t=>some (.rt t)
@[simp] noncomputable def wO (is:List Nat) (f:Ev->Option (List T)) (g:T->Ev->Option Ev) (b:Sm):Sm:=fun ρ=>(f ρ).bind λ ts=>wD is g b ts ρ
theorem vl {is:List Nat}{fi:Ev->Option (List T)}{ti:wR}{g:T->Ev->Option Ev}{tg:xq}{b:Sm}{tb:yP} [Lo R] (hi:ql true fi ti) (hg:mj g tg) (hb:yv R b tb):yv R (wO is fi g b) (nP ti tg tb):=λ S0 Z0 S Z δ ρ o E F e P=>by
 obtain⟨ts,e1,e2⟩:=zOb e;refine hi S Z δ ρ ts _ F.er e1 λ I S1 s1 r1 hk=>?_;rw[if_pos rfl] at hk;obtain⟨SB,b1,FB,b2⟩:=(F.grow s1).rebase;have lo:∀ S' d y,R SB S' Z0 y d->R S0 S' Z0 y d:=λ S' d y r=>Lo.lo b1 (λ _ z=>z) r;have zz:=F.zz;refine⟨λ i δ' S'=>∃ Z' ρ',FR SB Z0 S' Z' δ' ρ'/\wD is g b (ts.drop i) ρ'=some o,⟨Z,ρ,FB,e2⟩,λ i δ' S' ⟨Z',ρ',F',_⟩=>hk S' (b2.trans F'.sx),λ i d δ' S' hd ⟨Z',ρ',F',e'⟩=>?_,fun δ' S' ⟨Z',ρ',F',e'⟩=>?_⟩
 .obtain⟨y,hy,r2⟩:=r1.gh hd;have hlt:=(List.getElem?_eq_some_iff.mp hy).1;have hdt:ts.drop i=y::ts.drop (i+1):=by
   rw[List.drop_eq_getElem_cons hlt,(List.getElem?_eq_some_iff.mp hy).2]
  rw[hdt] at e';unfold wD at e';obtain⟨ρ1,g1,e'⟩:=zOb e';obtain⟨o1,g2,e'⟩:=zOb e';refine hg SB Z0 S' Z' δ' _ ρ1 y d _ (F'.yS is) (Sn.sx (F'.Xj b2 zz) y r2) g1 fun δ2 F2=>?_
  refine hb SB Z0 S' Z' δ2 ρ1 o1 _ F2 g2 ?_;cases o1 with
  | nx ρ2=>exact λ S3 Z3 δ3 F3=>⟨Z3,ρ2,F3,e'⟩
  | ct ρ2=>exact λ S3 Z3 δ3 F3=>⟨Z3,ρ2,F3,e'⟩
  | bk ρ2=>cases e';exact λ S3 Z3 δ3 F3=>P S3 Z3 δ3 ((F3.yS is).back b1 F.z0)
  | rt y=>cases e';exact λ d S3 s3 r3=>P d S3 (b1.trans s3) (lo _ _ _ r3)
 .rw[show I.items.length=ts.length from r1.len,List.drop_length] at e';unfold wD at e';cases e';exact P S' Z' δ' ((F'.yS is).back b1 F.z0)
end
end L5
namespace L5
open PySem L2 L3
@[simp] noncomputable def uq (i:Nat) (f:Ev->Option T):Sm:=fun ρ=>match ρ[i]? with
 | some (some (.own (.lst ts)))=>(f ρ).bind λ y=>if ts.length<sizeLine then some (.nx (ρ.set i (some (.own (.lst (ts++[y])))))) else none
 | _=>none
section
variable {R:Rk}{f:Ev->Option T}{te:zC}
theorem sM (i:Nat) (hf:vt f te):yv R (uq i f) (nQ (s_ (y8 i) te)):=λ S0 Z0 S Z δ ρ o E F e P=>by
 unfold uq at e;split at e
 .rename_i ts h;obtain⟨y,e1,e2⟩:=zOb e;split at e2
  .rename_i hl;cases e2;obtain⟨p,ob,h1,h2,h3,h4⟩:=F.er.ow i _ h;obtain⟨ds,rfl⟩:∃ ds,ob=.lst ds:=by
    cases ob with
    | lst ds=>exact⟨ds,rfl⟩
    | yg _=>exact h3.elim
   replace h3:zo (zT S Z) ts ds:=h3;show s_ (y8 i) te δ S _;unfold s_ y8;rw[h1];refine⟨⟨ds,h2⟩,hf S Z δ ρ y _ F.er e1 λ d S1 s1 r1=>?_⟩;dsimp only;rw[s1 _ _ h2];have F1:=F.grow s1;refine⟨by rw[h3.len];exact hl,P _ Z δ (F1.mut (us:=.lst (ts++[y])) (es:=.lst (ds++[d])) i h h1 ((zo.sx (wN s1) ts h3).append (.cons r1 .nil)))⟩
  .cases e2
 .cases e
end
def tS (pick:List (Option Nat)) (ti:wR) (g:xq) (tc:yJ) (te:zC):zC:=fun δ S Q=>ti δ S λ I S1=>I.items.length<=sizeLine/\(∀ S,Sx S1 S->I.keep S)/\∀ p,S1 p=none->∃ W:Nat->SS->List D->Prop,W 0 S1 []/\
 (∀ i S S' acc,(∀ b o,b≠p->S b=some o->S' b=some o)->W i S acc->W i S' acc)/\
 (∀ i d S acc,I.items[i]?=some d->Sx S1 S->S p=some (.lst acc)->W i S acc->g d (ua pick δ) S fun δ2 S2=>qg (ua pick δ) δ2/\tc δ2 S2 λ b S3=>if b=true then te δ2 S3 λ y S4=>Sx S S4/\W (i+1) S4 (acc++[y]) else Sx S S3/\W (i+1) S3 acc)/\
 ∀ S2 acc,Sx S1 S2->S2 p=some (.lst acc)->W I.items.length S2 acc->Q (.ref p) S2
@[simp] noncomputable def o5 (pick:List (Option Nat)) (ρ:Ev):Ev:=pick.map λ o=>o.bind λ i=>(ρ[i]?).join
noncomputable def qa (h:T->Option (Option T)):List T->Option (List T)
 | []=>some []
 | y::ys=>(h y).bind λ o=>(qa h ys).map λ zs=>match o with
  | some z=>z::zs
  | none=>zs
@[simp] noncomputable def qU (pick:List (Option Nat)) (g:T->Ev->Option Ev) (c:Ev->Option Bool) (f:Ev->Option T) (ρ:Ev) (y:T):Option (Option T):=
 (g y (o5 pick ρ)).bind fun ρ2=>(c ρ2).bind λ b=>if b=true then (f ρ2).map some else some none
noncomputable def wM (pick:List (Option Nat)) (it:Ev->Option (List T)) (g:T->Ev->Option Ev) (c:Ev->Option Bool) (f:Ev->Option T):Ev->Option T:=fun ρ=>(it ρ).bind λ ts=>if ts.length<=sizeLine then (qa (qU pick g c f ρ) ts).map .lst else none
@[simp] noncomputable def ra:Ev->Option Bool:=λ _=>some true
theorem rM:vh ra bX:=λ S Z δ ρ y Q hE e hq=>by cases e;exact hq S (.refl S)
def kK (pick:List (Option Nat)) (g:T->Ev->Option Ev) (t:xq):Prop:=∀ B S Z δ ρ ρ' y d Q,(∀ i:Nat,pick[i]?=some none->B[i]?=some none)->qg B δ->δ.length=ρ.length->ER S Z δ ρ->Sn (zT S Z) y d->g y ρ=some ρ'->
 (∀ δ',ER S Z δ' ρ'->qg B δ'->δ'.length=ρ'.length->Q δ' S)->t d δ S Q
def kJ (pick:List (Option Nat)) (g:List T->Ev->Option Ev) (t:wU):Prop:=∀ B S Z δ ρ ρ' y d Q,(∀ i:Nat,pick[i]?=some none->B[i]?=some none)->qg B δ->δ.length=ρ.length->ER S Z δ ρ->zo (zT S Z) y d->g y ρ=some ρ'->
 (∀ δ',ER S Z δ' ρ'->qg B δ'->δ'.length=ρ'.length->Q δ' S)->t d δ S Q
theorem ER.uO {S:SS}{Z:Addr->Prop}{δ:yn}{ρ:Ev}{y:T}{d:D}(h:ER S Z δ ρ) (hl:δ.length=ρ.length) (i:Nat) (r:Sn (zT S Z) y d):ER S Z (δ.set i (some d)) (ρ.set i (some (.im y))):=by
 refine⟨h.zd,λ j t e=>?_,λ j ts e=>?_⟩
 .rcases yW e with ⟨rfl,hl',e⟩ | ⟨n,e⟩
  .cases e;exact⟨d,pj (by rw[hl];exact hl'),r⟩
  .rw[vc n];exact h.im j t e
 .rcases yW e with ⟨rfl,hl',e⟩ | ⟨n,e⟩
  .cases e
  .rw[vc n];exact h.ow j ts e
variable {pick:List (Option Nat)}
theorem vm (i:Nat) (hi:pick[i]?=some none:=by rfl):kK pick (zL i) (hName i):=λ B S Z δ ρ ρ' y d Q hB hs hl hE r e hq=>by
 cases e;refine hq _ (hE.uO hl i r) ⟨by rw[List.length_set];exact hs.1,λ j c q=>?_⟩ (by simp[hl]);by_cases hj:i=j
 .subst hj;rw[hB i hi] at q;cases q
 .rw[vc hj];exact hs.2 j c q
theorem i5:kJ pick ud hG:=λ B S Z δ ρ ρ' y d Q hB hs hl hE r e hq=>by
 cases y with
 | nil=>simp only[zo] at r;subst r;cases e;exact⟨rfl,hq _ hE hs hl⟩
 | cons _ _=>cases e
theorem qQ {g:T->Ev->Option Ev}{h:List T->Ev->Option Ev}{t:xq}{u:wU}(hg:kK pick g t) (hh:kJ pick h u):kJ pick (xp g h) (hJ t u):=λ B S Z δ ρ ρ' y d Q hB hs hl hE r e hq=>by
 cases y with
 | nil=>cases e
 | cons y ys=>
  simp only[zo] at r;obtain⟨c,cs,rfl,r1,r2⟩:=r;obtain⟨ρ1,e1,e2⟩:=zOb e;exact hg B S Z δ ρ ρ1 y c _ hB hs hl hE r1 e1 fun δ1 E1 s1 l1=>hh B S Z δ1 ρ1 ρ' ys cs Q hB s1 l1 E1 r2 e2 hq
theorem i6 {n:Nat}{g:List T->Ev->Option Ev}{t:wU}(hg:kJ pick g t):kK pick (vi n g) (lW n t):=λ B S Z δ ρ ρ' y d Q hB hs hl hE r e hq=>by
 cases y with
 | tup ys=>
  simp only[Sn] at r;obtain⟨ds,rfl,r⟩:=r;simp only[vi] at e;split at e
  .rename_i hn;exact⟨by rw[r.len];exact hn,hg B S Z δ ρ ρ' ys ds Q hB hs hl hE r e hq⟩
  .cases e
 | zk=>cases e
 | bl _=>cases e
 | int _=>cases e
 | str _=>cases e
 | lst _=>cases e
 | zY=>cases e
theorem dF {ρ:Ev}{i:Nat}{w:W}(h:(o5 pick ρ)[i]?=some (some w)):∃ j:Nat,pick[i]?=some (some j)/\ρ[j]?=some (some w):=by
 unfold o5 at h;rw[List.getElem?_map] at h;cases q:pick[i]? with
 | none=>rw[q] at h;cases h
 | some o=>
  rw[q] at h;cases o with
  | none=>simp at h
  | some j=>
   simp only[Option.map_some,Option.bind_some,Option.some.injEq] at h;refine⟨j,rfl,?_⟩;cases q2:ρ[j]? with
   | none=>rw[q2] at h;cases h
   | some o2=>rw[q2] at h;simp only[Option.join_some] at h;rw[h]
theorem dG {δ:yn}{i j:Nat}{d:D}(h:pick[i]?=some (some j)) (h':δ[j]?=some (some d)):(ua pick δ)[i]?=some (some d):=by
 unfold ua;rw[List.getElem?_map,h];simp[h']
theorem ER.Wk {S:SS}{Z:Addr->Prop}{δ:yn}{ρ:Ev}(h:ER S Z δ ρ):ER S Z (ua pick δ) (o5 pick ρ):=by
 refine⟨h.zd,λ i t e=>?_,λ i ts e=>?_⟩
 .obtain⟨j,h1,h2⟩:=dF e;obtain⟨d,h3,h4⟩:=h.im j t h2;exact⟨d,dG h1 h3,h4⟩
 .obtain⟨j,h1,h2⟩:=dF e;obtain⟨p,ds,h3,h4⟩:=h.ow j ts h2;exact⟨p,ds,dG h1 h3,h4⟩
theorem ER.hide {S S':SS}{Z:Addr->Prop}{δ:yn}{ρ:Ev}{p:Addr}(h:ER S Z δ ρ) (s:Sx S S') (hp:S p=none) (hp':S' p≠none):ER S' (λ a=>Z a\/a=p) δ ρ:=by
 refine⟨λ a z q=>?_,λ i t e=>?_,λ i ts e=>?_⟩
 .rcases z with z | rfl
  .exact h.zd a z (s.none q)
  .exact hp' q
 .obtain⟨d,h1,h2⟩:=h.im i t e;exact⟨d,h1,Sn.sx (pb s hp) t h2⟩
 .obtain⟨q,ds,h1,h2,h3,h4⟩:=h.ow i ts e;exact⟨q,ds,h1,s _ _ h2,tq.sx (pb s hp) h3,.inl h4⟩
theorem u4 {it:Ev->Option (List T)}{ti:wR}{g:T->Ev->Option Ev}{tg:xq}{c:Ev->Option Bool}{tc:yJ}{f:Ev->Option T}{te:zC}{b:Bool}(hi:ql b it ti) (hg:kK pick g tg) (hc:vh c tc) (hf:vt f te):
  xI (wM pick it g c f) (tS pick ti tg tc te):=λ S Z δ ρ y Q hE e hq=>by
 obtain⟨ts,e1,e2⟩:=zOb e;split at e2
 case isFalse=>cases e2
 rename_i hlen;obtain⟨zs,e3,rfl⟩:=zOm e2;refine hi S Z δ ρ ts _ hE e1 λ I S1 s1 r1 hk=>⟨by rw[r1.len];exact hlen,λ S' s'=>hk S' ?_,λ p hp=>?_⟩
 .cases b
  .exact s'
  .exact (q_ _ _).trans s'
 have E1:=hE.grow s1;have nz:¬ Z p:=λ z=>E1.zd p z hp;refine⟨λ i S' acc=>∃ us ws,zo (zT S' λ a=>Z a\/a=p) us acc/\qa (qU pick g c f ρ) (ts.drop i)=some ws/\zs=us++ws,⟨[],zs,.nil,e3,rfl⟩,λ i S' S'' acc hh ⟨us,ws,h1,h2⟩=>⟨us,ws,zo.sx (λ a o q=>?_) us h1,h2⟩,λ i d S2 acc hd s2 hacc ⟨us,ws,h1,h2,h3⟩=>?_,λ S2 acc s2 hacc ⟨us,ws,h1,h2,h3⟩=>?_⟩
 .obtain⟨q1,q2⟩:=u6 q;rw[ug q1];exact hh a o (λ z=>q1 (.inr z)) q2
 .obtain⟨x,hx,rx⟩:=r1.gh hd;have hlt:=(List.getElem?_eq_some_iff.mp hx).1;have hdt:ts.drop i=x::ts.drop (i+1):=by rw[List.drop_eq_getElem_cons hlt,(List.getElem?_eq_some_iff.mp hx).2]
  rw[hdt] at h2;unfold qa at h2;obtain⟨o,o1,h2⟩:=zOb h2;obtain⟨ws',o2,rfl⟩:=zOm h2;have E2:=(E1.hide s2 hp (by rw[hacc];nofun)).Wk (pick:=pick);unfold qU at o1;obtain⟨ρ2,g1,o1⟩:=zOb o1;obtain⟨bb,g2,o1⟩:=zOb o1;refine hg (ua pick δ) S2 _ _ _ ρ2 x d _ (λ j hj=>?_) ⟨rfl,λ _ _ q=>q⟩ (by unfold ua o5;simp) E2 (Sn.sx (pb s2 hp) x rx) g1 fun δ2 E3 l3 _=>⟨l3,?_⟩
  .unfold ua;rw[List.getElem?_map,hj];rfl
  refine hc S2 _ δ2 ρ2 bb _ E3 g2 λ S3 s3=>?_;split at o1
  .rename_i hb;rw[if_pos hb];obtain⟨z,g3,rfl⟩:=zOm o1;refine hf S3 _ δ2 ρ2 z _ (E3.grow s3) g3 λ dz S4 s4 r4=>⟨s3.trans s4,us++[z],ws',?_,o2,by rw[h3];simp⟩;exact (zo.sx (wN (s3.trans s4)) us h1).append (.cons r4 .nil)
  .rename_i hb;rw[if_neg hb];cases o1;exact⟨s3,us,ws',zo.sx (wN s3) us h1,o2,h3⟩
 .rw[show I.items.length=ts.length from r1.len,List.drop_length] at h2;cases h2;rw[List.append_nil] at h3;subst h3;refine hq _ S2 (s1.trans s2) ⟨?_,λ vs e=>?_⟩
  .simp only[Sn];exact⟨acc,.inr ⟨p,rfl,by rw[ug nz];exact hacc⟩,zo.sx (uU λ a z=>.inl z) zs h1⟩
  .cases e;exact⟨p,acc,rfl,s1.none hp,hacc,h1⟩
mutual
noncomputable def plainT:T->Bool
 | .tup ts=>sI ts
 | .lst _=>false
 | .zY=>false
 | _=>true
noncomputable def sI:List T->Bool
 | []=>true
 | t::ts=>plainT t&&sI ts
end
mutual
theorem dD {S S':SS}:∀ (t:T) {d:D},plainT t=true->Sn S t d->Sn S' t d
 | .zk,d,_,q=>by simpa only [Sn] using q
 | .bl b,d,_,q=>by simpa only [Sn] using q
 | .int i,d,_,q=>by simpa only [Sn] using q
 | .str x,d,_,q=>by simpa only [Sn] using q
 | .tup ts,d,h,q=>by
  simp only[Sn] at q ⊢;obtain⟨ds,q1,q2⟩:=q;exact⟨ds,q1,j_ ts (by simpa only [plainT] using h) q2⟩
 | .lst ts,d,h,q=>by simp only[plainT] at h;cases h
 | .zY,d,h,q=>by simp only[plainT] at h;cases h
theorem j_ {S S':SS}:∀ (ts:List T) {ds:List D},sI ts=true->zo S ts ds->zo S' ts ds
 | [],ds,_,q=>by simpa only [zo] using q
 | t::ts,ds,h,q=>by
  simp only[sI,Bool.and_eq_true] at h;simp only[zo] at q ⊢;obtain⟨c,cs,q1,q2,q3⟩:=q;exact⟨c,cs,q1,dD t h.1 q2,j_ ts h.2 q3⟩
end
class Sr (R:Rk):Prop extends Lo R where
 sn:∀ {S S':SS}{Z:Addr->Prop}{y:T}{d:D},R S S' Z y d->Sn (zT S' Z) y d
instance:Sr uu:=⟨λ h=>h⟩
instance:Sr zM:=⟨λ h=>h.1⟩
def yj (R:Rk) (F:List T->Option T):tW:=λ ds S Q=>∃ Z ys y,(∀ a,Z a->S a≠none)/\zo (zT S Z) ys ds/\F ys=some y/\∀ d S',Sx S S'->R S S' Z y d->Q d S'
theorem yj.mo {R:Rk}{F:List T->Option T}:gW (yj R F):=λ _ _ _ _ hq ⟨Z,ys,y,h1,h2,h3,h4⟩=>⟨Z,ys,y,h1,h2,h3,λ d S' s r=>hq _ _ (h4 d S' s r)⟩
theorem zW {R:Rk} [Lo R] {F:List T->Option T}{g:Ev->Option (List T)}{u:y6}(h:pF g u):wa R (zB F g) (g9 (yj R F) u):=λ S Z δ ρ y Q hE e hq=>by
 obtain⟨xs,e1,e2⟩:=zOb e;refine h S Z δ ρ xs _ hE e1 λ ds S1 s1 r1=>?_;exact⟨Z,xs,y,(hE.grow s1).zd,r1,e2,λ d S' s r=>hq d S' (s1.trans s) (Cl.cl s1 r)⟩
@[simp] noncomputable def uM (N:List Str) (ys:List T):Ev:=ys.map (λ y=>some (.im y))++List.replicate (N.length-ys.length) none
@[simp] noncomputable def iy:Option Out->Option T
 | some (.rt y)=>some y
 | some (.nx _)=>some .zk
 | _=>none
@[simp] noncomputable def ye (N:List Str) (n:Nat) (g:Sm):List T->Option T:=λ ys=>if ys.length=n then iy (g (uM N ys)) else none
theorem yj.len {R:Rk}{N:List Str}{n:Nat}{g:Sm}{ds:List D}{S:SS}{Q:DK}(hs:yj R (ye N n g) ds S Q):ds.length=n:=by
 obtain⟨Z,ys,y,hz,r,e,hq⟩:=hs;unfold ye at e;split at e
 .rename_i h;rw[r.len];exact h
 .cases e
theorem eG {N:List Str}{ds:List D}{i:Nat}{d:D}(h:ds[i]?=some d):(u3 N ds)[i]?=some (some d):=by
 have hi:=(List.getElem?_eq_some_iff.mp h).1;unfold u3;rw[List.getElem?_append_left (by simpa using hi),List.getElem?_map,h];rfl
theorem sD {N:List Str}{ys:List T}{i:Nat}{w:W}(h:(uM N ys)[i]?=some (some w)):∃ y,ys[i]?=some y/\w=.im y:=by
 unfold uM at h;have hi:i<ys.length:=by
  rcases Nat.lt_or_ge i ys.length with q | q
  .exact q
  .rw[List.getElem?_append_right (by simpa using q),List.getElem?_replicate] at h;split at h <;> cases h
 rw[List.getElem?_append_left (by simpa using hi),List.getElem?_map] at h;cases q:ys[i]? with
 | none=>rw[q] at h;cases h
 | some y=>rw[q] at h;cases h;exact⟨y,rfl,rfl⟩
theorem Qf {R:Rk} [Lo R] {N:List Str}{n:Nat}{g:Sm}{t:yP}(h:yv R g t) {ds:List D}{S:SS}{Q:DK}(hs:yj R (ye N n g) ds S Q):t { nx:=λ _ S'=>Q .zk S',rt:=Q } (u3 N ds) S:=by
 obtain⟨Z,ys,y,hz,r,e,hq⟩:=hs;unfold ye at e;split at e
 case isFalse=>cases e
 obtain⟨o,e1,e2⟩:∃ o,g (uM N ys)=some o/\iy (some o)=some y:=by
  cases q:g (uM N ys) with
  | none=>rw[q] at e;cases e
  | some o=>exact⟨o,rfl,by rw[<- q];exact e⟩
 refine h S Z S Z _ _ o _ ⟨⟨hz,λ i t e=>?_,λ i ts e=>?_⟩,?_,.refl S,hz,λ _ z=>z,λ _ z=>.inl z,λ i ts p e _=>?_,λ i j ts us p _ e _ _ _=>?_⟩ e1 ?_
 .obtain⟨y',h1,h2⟩:=sD e;cases h2;obtain⟨d,h3,h4⟩:=r.lY h1;exact⟨d,eG h3,h4⟩
 .obtain⟨y',h1,h2⟩:=sD e;cases h2
 .unfold u3 uM;have:=r.len;simp[this]
 .obtain⟨y',h1,h2⟩:=sD e;cases h2
 .obtain⟨y',h1,h2⟩:=sD e;cases h2
 .cases o with
  | rt y'=>cases e2;exact λ d S' s r=>hq d S' s r
  | nx ρ'=>
   cases e2;exact λ S' Z' δ' F=>hq .zk S' F.sx (Cl.of (λ _=>nofun) jq)
  | bk _=>cases e2
  | ct _=>cases e2
end L5
namespace L5
open PySem L2 L3
noncomputable def xu (kvs:List (Key×T)) (k:Key):Option T:=(kvs.find? λ kv=>decide (kv.1=k)).map (·.2)
noncomputable def vY (kvs:List (Key×T)) (k:Key) (v:T):List (Key×T):=
 if (kvs.any λ kv=>decide (kv.1=k))=true then kvs.map (λ kv=>if kv.1=k then (kv.1,v) else kv) else kvs++[(k,v)]
section
variable {S:SS}
theorem yE.len:∀ {a:List (Key×T)}{b:List (Key×D)},yE S a b->b.length=a.length
 | [],_,h=>by cases h;rfl
 | (k,t)::r,_,h=>by
  obtain⟨d,m,rfl,_,h2⟩:=h;simp[yE.len h2]
theorem yE.val:∀ {a:List (Key×T)}{b:List (Key×D)}(k:Key),yE S a b->(xu a k=none/\vV b k=none)\/∃ t d,xu a k=some t/\vV b k=some d/\Sn S t d
 | [],_,k,h=>by cases h;exact .inl ⟨rfl,rfl⟩
 | (j,t)::r,_,k,h=>by
  obtain⟨d,m,rfl,h1,h2⟩:=h;by_cases e:j=k
  .subst e;exact .inr ⟨t,d,by simp[xu],by simp[vV],h1⟩
  .rcases yE.val k h2 with ⟨g1,g2⟩ | ⟨t',d',g1,g2,g3⟩
   .exact .inl ⟨by simpa [xu,e] using g1,by simpa [vV,e] using g2⟩
   .exact .inr ⟨t',d',by simpa [xu,e] using g1,by simpa [vV,e] using g2,g3⟩
theorem yE.any:∀ {a:List (Key×T)}{b:List (Key×D)}(k:Key),yE S a b->(b.any λ kv=>decide (kv.1=k))=a.any λ kv=>decide (kv.1=k)
 | [],_,k,h=>by cases h;rfl
 | (j,t)::r,_,k,h=>by
  obtain⟨d,m,rfl,h1,h2⟩:=h;rw[List.any_cons,List.any_cons,yE.any k h2]
theorem yE.uP {k:Key}{t:T}{d:D}(r:Sn S t d):∀ {a:List (Key×T)}{b:List (Key×D)},yE S a b->yE S (a.map λ kv=>if kv.1=k then (kv.1,t) else kv) (b.map λ kv=>if kv.1=k then (kv.1,d) else kv)
 | [],_,h=>by cases h;rfl
 | (j,u)::a,_,h=>by
  obtain⟨e,m,rfl,h1,h2⟩:=h;rw[List.map_cons,List.map_cons];by_cases q:j=k
  .rw[if_pos q,if_pos q];exact⟨d,_,rfl,r,yE.uP r h2⟩
  .rw[if_neg q,if_neg q];exact⟨e,_,rfl,h1,yE.uP r h2⟩
theorem yE.snoc {k:Key}{t:T}{d:D}(r:Sn S t d):∀ {a:List (Key×T)}{b:List (Key×D)},yE S a b->yE S (a++[(k,t)]) (b++[(k,d)])
 | [],_,h=>by cases h;exact⟨d,[],rfl,r,rfl⟩
 | (j,u)::a,_,h=>by
  obtain⟨e,m,rfl,h1,h2⟩:=h;exact⟨e,_,rfl,h1,yE.snoc r h2⟩
theorem yE.put {a:List (Key×T)}{b:List (Key×D)}(h:yE S a b) (k:Key) {t:T}{d:D}(r:Sn S t d):yE S (vY a k t) (putD b k d):=by
 unfold vY putD;rw[h.any k];split
 .exact yE.uP r h
 .exact yE.snoc r h
end
@[simp] noncomputable def aa (i:Nat):Sm:=fun ρ=>some (.nx (ρ.set i (some (.own (.yg [])))))
@[simp] noncomputable def gy (i:Nat) (f:Ev->Option T):Ev->Option T:=fun ρ=>(f ρ).bind λ y=>match ρ[i]?,y with
 | some (some (.own (.yg kvs))),.int k=>xu kvs (.inl k)
 | _,_=>none
@[simp] noncomputable def ae (i:Nat) (f g:Ev->Option T):Ev->Option T:=fun ρ=>(f ρ).bind λ y=>(g ρ).bind λ z=>match ρ[i]?,y with
 | some (some (.own (.yg kvs))),.int k=>some ((xu kvs (.inl k)).getD z)
 | _,_=>none
@[simp] noncomputable def b_ (i:Nat) (f v:Ev->Option T):Sm:=fun ρ=>(v ρ).bind λ z=>(f ρ).bind λ y=>match ρ[i]?,y with
 | some (some (.own (.yg kvs))),.int k=>if kvs.length<sizeLine then some (.nx (ρ.set i (some (.own (.yg (vY kvs (.inl k) z)))))) else none
 | _,_=>none
@[simp] noncomputable def gw (i:Nat):Ev->Option T:=fun ρ=>match ρ[i]? with
 | some (some (.own (.yg kvs)))=>some (.int kvs.length)
 | _=>none
theorem l9 {S:SS}{Z:Addr->Prop}{δ:yn}{ρ:Ev}(hE:ER S Z δ ρ) {i:Nat}{kvs:List (Key×T)}(h:ρ[i]?=some (some (.own (.yg kvs)))):∃ p b,δ[i]?=some (some (.ref p))/\S p=some (.yg b)/\yE (zT S Z) kvs b:=by
 obtain⟨p,o,h1,h2,h3,_⟩:=hE.ow i _ h;cases o with
 | yg b=>exact⟨p,b,h1,h2,h3⟩
 | lst _=>exact h3.elim
section
variable {R:Rk}{f g v:Ev->Option T}{ty tx tv:zC}
theorem VS (i:Nat):yv R (aa i) (vo ax (hName i)):=λ S0 Z0 S Z δ ρ o E F e P=>by
 cases e;intro p hp;exact P _ _ _ (F.eS (ts:=.yg []) (ds:=.yg []) (.new hp _) i hp sr rfl)
theorem cq (i:Nat) (hf:yA f ty):vt (gy i f) (a9 (y8 i) ty):=λ S Z δ ρ y Q hE e hq=>by
 obtain⟨x,e1,e2⟩:=zOb e;split at e2
 .rename_i kvs k h;obtain⟨p,b,h1,h2,h3⟩:=l9 hE h;show y8 i δ S _;unfold y8;rw[h1];refine hf S Z δ ρ _ _ hE e1 λ d S1 s1 r1=>?_;cases Vw.int r1;rcases (yE.sx (wN s1) h3).val (.inl k) with ⟨g1,_⟩ | ⟨t,d,g1,g2,g3⟩
  .rw[g1] at e2;cases e2
  .rw[g1] at e2;cases e2;exact⟨p,b,k,d,rfl,rfl,s1 _ _ h2,g2,hq d S1 s1 g3⟩
 .cases e2
theorem Uz (i:Nat) (hf:yA f ty) (hg:vt g tx):vt (ae i f g) (az (y8 i) ty tx):=λ S Z δ ρ y Q hE e hq=>by
 obtain⟨x,e1,e⟩:=zOb e;obtain⟨z,e2,e3⟩:=zOb e;split at e3
 .rename_i kvs k h;cases e3;obtain⟨p,b,h1,h2,h3⟩:=l9 hE h;show y8 i δ S _;unfold y8;rw[h1];refine⟨p,rfl,⟨b,h2⟩,hf S Z δ ρ _ _ hE e1 λ d S1 s1 r1=>?_⟩;cases Vw.int r1;refine hg S1 Z δ ρ z _ (hE.grow s1) e2 λ dz S2 s2 r2=>⟨k,b,rfl,(s1.trans s2) _ _ h2,?_⟩;rcases (yE.sx (wN (s1.trans s2)) h3).val (.inl k) with ⟨g1,g2⟩ | ⟨t,d,g1,g2,g3⟩
  .rw[g2];rw[g1] at hq;exact hq _ S2 (s1.trans s2) r2
  .rw[g2];rw[g1] at hq;exact hq _ S2 (s1.trans s2) g3
 .cases e3
theorem VR (i:Nat) (hf:yA f ty) (hv:vt v tv):yv R (b_ i f v) (ay (y8 i) ty tv):=λ S0 Z0 S Z δ ρ o E F e P=>by
 obtain⟨z,e1,e⟩:=zOb e;obtain⟨x,e2,e3⟩:=zOb e;split at e3
 .rename_i kvs k h;split at e3
  .rename_i hl;cases e3;refine hv S Z δ ρ z _ F.er e1 λ dz S1 s1 r1=>?_;have F1:=F.grow s1;obtain⟨p,b,h1,h2,h3⟩:=l9 F1.er h;show y8 i δ S1 _;unfold y8;rw[h1];refine hf S1 Z δ ρ _ _ F1.er e2 λ d S2 s2 r2=>?_;cases Vw.int r2;have h4:=yE.sx (wN s2) h3;exact⟨p,b,k,rfl,rfl,s2 _ _ h2,by rw[h4.len];exact hl,P _ Z δ ((F1.grow s2).mut (us:=.yg (vY kvs (.inl k) z)) (es:=.yg (putD b (.inl k) dz)) i h h1 (h4.put _ (Sn.sx (wN s2) z r1)))⟩
  .cases e3
 .cases e3
theorem Uy (i:Nat):xI (gw i) (xK bL (r_ (y8 i) kj)):=λ S Z δ ρ y Q hE e hq=>by
 unfold gw at e;split at e
 .rename_i kvs h;cases e;obtain⟨p,b,h1,h2,h3⟩:=l9 hE h;show y8 i δ S _;unfold y8;rw[h1];refine⟨p,b,rfl,h2,?_⟩;rw[h3.len];exact hq _ S (.refl S) (Cl.of (λ _=>nofun) wY)
 .cases e
end
@[simp] noncomputable def oT (f:Ev->Option T):Ev->Option T:=fun ρ=>(f ρ).bind λ x=>match x with
 | .int i=>some (.int (-i))
 | _=>none
def ar (ta:zC):zC:=fun δ S Q=>ta δ S λ x S1=>match x with
 | .int i=>Q (.int (-i)) S1
 | _=>False
theorem lF {f:Ev->Option T}{te:zC}(h:yA f te):xI (oT f) (ar te):=λ S Z δ ρ y Q hE e hq=>by
 obtain⟨x,e1,e2⟩:=zOb e;refine h S Z δ ρ x _ hE e1 λ d S1 s1 r1=>?_;split at e2
 .cases Vw.int r1;cases e2;exact hq _ S1 s1 (Cl.of (λ _=>nofun) wY)
 .cases e2
theorem ph:vS zM rO bK:=b7
theorem hZ:vS zM lJ bJ:=b7
noncomputable def uf:List T->Option (List Int)
 | []=>some []
 | .int i::ts=>(uf ts).map (i::·)
 | _::_=>none
noncomputable def vX:List T->Option (List (List Int))
 | []=>some []
 | .tup r::ts=>(uf r).bind λ x=>(vX ts).map (x::·)
 | _::_=>none
noncomputable def yt (r:List Int):T:=.tup (r.map T.int)
theorem ng:∀ {ts:List T}{is:List Int},uf ts=some is->ts=is.map T.int
 | [],is,h=>by cases h;rfl
 | .int b::ts,is,h=>by
  unfold uf at h;obtain⟨cs,h1,rfl⟩:=zOm h;rw[List.map_cons,<- ng h1]
 | .zk::ts,bs,h=>by cases h
 | .bl _::ts,bs,h=>by cases h
 | .str _::ts,bs,h=>by cases h
 | .tup _::ts,bs,h=>by cases h
 | .lst _::ts,bs,h=>by cases h
theorem jQ:∀ {ts:List T}{rs:List (List Int)},vX ts=some rs->ts=rs.map yt
 | [],is,h=>by cases h;rfl
 | .tup r::ts,is,h=>by
  unfold vX at h;obtain⟨x,h1,h⟩:=zOb h;obtain⟨cs,h2,rfl⟩:=zOm h;rw[List.map_cons,<- jQ h2,ng h1];rfl
 | .zk::ts,bs,h=>by cases h
 | .bl _::ts,bs,h=>by cases h
 | .str _::ts,bs,h=>by cases h
 | .int _::ts,bs,h=>by cases h
 | .lst _::ts,bs,h=>by cases h
theorem bo (is:List Int):uf (is.map T.int)=some is:=by
 induction is with
 | nil=>rfl
 | cons b bs ih=>rw[List.map_cons];unfold uf;rw[ih];rfl
theorem jR (rs:List (List Int)):vX (rs.map yt)=some rs:=by
 induction rs with
 | nil=>rfl
 | cons b bs ih=>
  show vX (.tup (b.map T.int)::bs.map yt)=_;unfold vX;rw[bo,ih];rfl
theorem t8 {S:SS}:∀ {is:List Int}{ds:List D},zo S (is.map T.int) ds↔ds=is.map D.int
 | [],ds=>by simp only[List.map_nil,zo]
 | i::is,ds=>by
  rw[List.map_cons];simp only[zo,Sn];constructor
  .rintro⟨c,cs,rfl,rfl,h⟩;rw[t8.mp h];rfl
  .rintro rfl;exact⟨.int i,_,rfl,rfl,t8.mpr rfl⟩
theorem q8 {S:SS}:∀ {rs:List (List Int)}{ds:List D},zo S (rs.map yt) ds↔ds=rs.map wc
 | [],ds=>by simp only[List.map_nil,zo]
 | r::rs,ds=>by
  rw[List.map_cons];simp only[zo,yt,Sn];constructor
  .rintro⟨c,cs,rfl,⟨es,rfl,h1⟩,h⟩;rw[q8.mp h,t8.mp h1];rfl
  .rintro rfl;exact⟨wc r,_,rfl,⟨_,rfl,t8.mpr rfl⟩,q8.mpr rfl⟩
@[simp] noncomputable def ez:T->String
 | .zk=>"NoneType"
 | .bl _=>"bool"
 | .int _=>"int"
 | .str _=>"str"
 | .tup _=>"tuple"
 | .lst _=>"list"
 | .zY=>"dict"
@[simp] noncomputable def instS (ty:String) (f:Ev->Option T):Ev->Option T:=fun ρ=>(f ρ).map λ x=>.bl (ue (ez x) ty)
theorem oK {ty:String}{f:Ev->Option T}{te:zC}(hf:yA f te):xI (instS ty f) (p9 ty te):=λ S Z δ ρ y Q hE e hq=>by
 obtain⟨x,e1,rfl⟩:=zOm e;refine hf S Z δ ρ x _ hE e1 λ d S1 s1 r1=>?_;have key:sy d S1=some (ez x):=by
  cases x with
  | zk=>cases Vw.zk r1;rfl
  | bl _=>cases Vw.bl r1;rfl
  | int _=>cases Vw.int r1;rfl
  | str _=>cases Vw.str r1;rfl
  | tup _=>obtain⟨ds,rfl,_⟩:=Vw.tup r1;rfl
  | lst _=>
   obtain⟨ds,rfl | ⟨a,rfl,h1⟩,h2⟩:=Vw.lst r1
   .rfl
   .unfold sy;dsimp only;rw[h1];rfl
  | zY=>
   obtain⟨a,kvs,rfl,h1⟩:=Vw.zY r1;unfold sy;dsimp only;rw[h1];rfl
 rw[key];exact hq _ S1 s1 (Cl.of (λ _=>nofun) wI)
@[simp] noncomputable def isNone:T->Bool
 | .zk=>true
 | _=>false
noncomputable def qW:D->Bool
 | .zk=>true
 | _=>false
end L5
namespace L5
open PySem L2 L3
noncomputable def zr (p:Int×Int):T:=.tup [.int p.1,.int p.2]
noncomputable def zP (ns:List Int):T:=.lst (ns.map .int)
@[simp] theorem zaa:sizeLine=16777216:=rfl
theorem Te {n:Nat}(h:n<=10000):n<=sizeLine:=Nat.le_trans h (by decide)
theorem uo {α:Type}{xs:List α}{k:Nat}{x:α}(h:xs[k]?=some x):L2.yd xs (k:Int)=some x:=by
 unfold L2.yd L2.va;have hk:=(List.getElem?_eq_some_iff.mp h).1;rw[if_pos (by omega),if_pos (by omega)];simpa using h
@[simp] theorem kC {α:Type}{xs:List α}{x:α}:L2.yd (xs++[x]) (-1)=some x:=by
 unfold L2.yd L2.va;rw[if_neg (by omega),if_pos (by simp;omega)];have:(-1+((xs++[x]).length:Int)).toNat=xs.length:=by simp;omega
 rw[Option.bind_some,this];simp
@[simp] theorem zah {α:Type}{x:α}{xs:List α}:L2.yd (x::xs) 0=some x:=uo (k:=0) rfl
@[simp] theorem zag {α:Type}{x y:α}{xs:List α}:L2.yd (x::y::xs) 1=some y:=uo (k:=1) rfl
@[simp] theorem zaf {α:Type}{x y z:α}{xs:List α}:L2.yd (x::y::z::xs) 2=some z:=uo (k:=2) rfl
@[simp] theorem zae {α:Type}{x y z w:α}{xs:List α}:L2.yd (x::y::z::w::xs) 3=some w:=uo (k:=3) rfl
theorem gB {α:Type}(enc:α->T) (g:α->Option T) (h:T->Option (Option T)):∀ (xs:List α),(∀ x∈xs,h (enc x)=some (g x))->qa h (xs.map enc)=some (xs.filterMap g)
 | [],_=>rfl
 | x::xs,hh=>by
  rw[List.map_cons];unfold qa;rw[hh x zMc,gB enc g h xs λ y hy=>hh y (zMo _ hy)];cases q:g x <;> simp[q]
theorem R6 {α:Type}(enc:α->T) (g:α->T) (h:T->Option (Option T)) (xs:List α) (hh:∀ x∈xs,h (enc x)=some (some (g x))):qa h (xs.map enc)=some (xs.map g):=by
 rw[gB enc (λ x=>some (g x)) h xs hh];simp
theorem rV {α:Type}(enc:α->T) (h:α->T) {pick:List (Option Nat)}{it:Ev->Option (List T)}{g:T->Ev->Option Ev}{c:Ev->Option Bool}{f:Ev->Option T}{ρ:Ev}(xs:List α) (hi:it ρ=some (xs.map enc)) (hl:xs.length<=16777216)
  (hh:∀ x∈xs,qU pick g c f ρ (enc x)=some (some (h x))):wM pick it g c f ρ=some (.lst (xs.map h)):=by
 unfold wM;rw[hi,Option.bind_some,if_pos (by rw[List.length_map];exact hl),R6 enc h _ xs hh];rfl
theorem lQ {α:Type}(enc:α->T) (h:α->Option T) {pick:List (Option Nat)}{it:Ev->Option (List T)}{g:T->Ev->Option Ev}{c:Ev->Option Bool}{f:Ev->Option T}{ρ:Ev}(xs:List α) (hi:it ρ=some (xs.map enc)) (hl:xs.length<=16777216)
  (hh:∀ x∈xs,qU pick g c f ρ (enc x)=some (h x)):wM pick it g c f ρ=some (.lst (xs.filterMap h)):=by
 unfold wM;rw[hi,Option.bind_some,if_pos (by rw[List.length_map];exact hl),gB enc h _ xs hh];rfl
section
variable {α:Type}{is:List Nat}{g:T->Ev->Option Ev}{b:Sm}
noncomputable def turn (g:T->Ev->Option Ev) (b:Sm) (y:T) (ρ:Ev):Option Out:=(g y ρ).bind b
theorem iM (y:T) (ys:List T) (ρ:Ev):wD is g b (y::ys) ρ=(turn g b y (yS is ρ)).bind λ o=>match o with
  | .nx ρ2=>wD is g b ys ρ2
  | .ct ρ2=>wD is g b ys ρ2
  | .bk ρ2=>some (.nx (yS is ρ2))
  | .rt t=>some (.rt t):=by
 unfold turn;rw[wD];cases g y (yS is ρ) <;> rfl
theorem iO (enc:α->T) (test:α->Bool) (v:T) (ρ0:Ev):∀ (xs:List α) (ρ:Ev),yS is ρ=ρ0->(∀ x∈xs,∃ ρ',yS is ρ'=ρ0/\turn g b (enc x) ρ0=some (if test x=true then .rt v else .nx ρ'))->wD is g b (xs.map enc) ρ=some (if xs.any test=true then .rt v else .nx ρ0)
 | [],ρ,h,_=>by rw[List.map_nil,wD,h];rfl
 | x::xs,ρ,h,hs=>by
  obtain⟨ρ',h1,h2⟩:=hs x zMc;rw[List.map_cons,iM,h,h2,List.any_cons];cases q:test x with
  | true=>simp
  | false=>
   have ih:=iO enc test v ρ0 xs ρ' h1 λ y hy=>hs y (zMo _ hy);simpa using ih
theorem cD (enc:α->T) (I:List α->Ev->Prop):∀ (xs:List α) (pre:List α) (ρ:Ev),I pre (yS is ρ)->
  (∀ p x q,pre++xs=p++x::q->∀ ρ,I p ρ->∃ ρ',turn g b (enc x) ρ=some (.nx ρ')/\I (p++[x]) (yS is ρ'))->∃ ρ',wD is g b (xs.map enc) ρ=some (.nx ρ')/\I (pre++xs) ρ'
 | [],pre,ρ,h,_=>⟨yS is ρ,by rw[List.map_nil,wD],by simpa using h⟩
 | x::xs,pre,ρ,h,hs=>by
  obtain⟨ρ',h1,h2⟩:=hs pre x xs rfl _ h;rw[List.map_cons,iM,h1];have ih:=cD enc I xs (pre++[x]) ρ' h2 λ p y q e=>hs p y q (by rw[<- e];simp);simpa using ih
theorem u5 (enc:α->T) (I:List α->Ev->Prop) (xs:List α) (ρ:Ev) (h:I [] (yS is ρ))
  (hs:∀ p x q,xs=p++x::q->∀ ρ,I p ρ->∃ ρ',turn g b (enc x) ρ=some (.nx ρ')/\I (p++[x]) (yS is ρ')):∃ ρ',wD is g b (xs.map enc) ρ=some (.nx ρ')/\I xs ρ':=cD enc I xs [] ρ h hs
end
theorem ou (n:Nat) (h:n<=100000):sG [.int (n:Int)]=some ((List.range n).map λ(k:Nat)=>T.int (0+(k:Int))):=by
 show (if inR (n:Int)=true then some (rangeT 0 (n:Int).toNat) else none)=_;rw[if_pos (br.mpr ⟨by omega,by omega⟩)];rfl
theorem rn (a:Key) (b:T) (kvs:List (Key×T)) (j:Key):xu ((a,b)::kvs) j=if a=j then some b else xu kvs j:=by
 by_cases h:a=j <;> simp[xu,h]
theorem ea (k j:Key) (d:T):∀ kvs:List (Key×T),xu (kvs.map λ kv=>if kv.1=k then (kv.1,d) else kv) j=(xu kvs j).map λ x=>if j=k then d else x
 | []=>rfl
 | (a,b)::kvs=>by
  have ih:=ea k j d kvs;rw[List.map_cons];by_cases hk:a=k
  .rw[if_pos hk,rn,rn,ih];by_cases hj:a=j
   .subst hj;subst hk;simp
   .rw[if_neg hj,if_neg hj]
  .rw[if_neg hk,rn,rn,ih];by_cases hj:a=j
   .subst hj;simp[hk]
   .rw[if_neg hj,if_neg hj]
theorem f_ (k j:Key) (d:T):∀ kvs:List (Key×T),(∀ kv∈kvs,¬ kv.1=k)->xu (kvs++[(k,d)]) j=if j=k then some d else xu kvs j
 | [],_=>by
  show xu [(k,d)] j=_;rw[rn];by_cases h:j=k
  .subst h;simp
  .rw[if_neg h,if_neg (λ z=>h z.symm)]
 | (a,b)::kvs,hn=>by
  have ih:=f_ k j d kvs λ kv hkv=>hn kv (zMo _ hkv);have ha:¬ a=k:=hn (a,b) zMc;show xu ((a,b)::(kvs++[(k,d)])) j=_;rw[rn,rn,ih];by_cases hj:a=j
  .subst hj;simp[ha]
  .rw[if_neg hj,if_neg hj]
theorem aY (kvs:List (Key×T)) (k:Key):(kvs.any λ kv=>decide (kv.1=k))=(xu kvs k).isSome:=by
 unfold xu;rw[Option.isSome_map,Bool.eq_iff_iff,List.any_eq_true,List.find?_isSome]
theorem mK (kvs:List (Key×T)) (k j:Key) (d:T):xu (vY kvs k d) j=if j=k then some d else xu kvs j:=by
 unfold vY;split
 .rename_i h;rw[aY] at h;rw[ea];by_cases hj:j=k
  .subst hj;obtain⟨x,hx⟩:=Option.isSome_iff_exists.mp h;simp[hx]
  .simp[hj]
 .rename_i h;exact f_ k j d kvs λ kv hkv z=>h (List.any_eq_true.mpr ⟨kv,hkv,decide_eq_true z⟩)
theorem cJ (kvs:List (Key×T)) (k:Key) (d:T):(vY kvs k d).length=if (xu kvs k).isSome=true then kvs.length else kvs.length+1:=by
 have e:=aY kvs k;unfold vY;rw[e];split <;> simp
noncomputable def vy (p:Int×Int):List Int:=[p.1,p.2]
noncomputable def t7 (ps:List (Int×Int)):List (Int×Int):=(L4.xQ (ps.map vy)).map λ r=>(r.getD 0 0,r.getD 1 0)
theorem eL (ps:List (Int×Int)):(t7 ps).map vy=L4.xQ (ps.map vy):=by
 unfold t7;rw[List.map_map]
 conv=>rhs;rw[<- List.map_id (L4.xQ (ps.map vy))]
 refine List.map_congr_left λ r hr=>?_;obtain⟨p,_,rfl⟩:=List.mem_map.mp ((L4.uN _).mem_iff.mp hr);rfl
theorem jo (ps:List (Int×Int)):(t7 ps).Perm ps:=by
 have h:=L4.uN (ps.map vy);have:(t7 ps).Perm ((ps.map vy).map λ r=>(r.getD 0 0,r.getD 1 0)):=h.map _
 rwa [List.map_map,show ((λ r:List Int=>(r.getD 0 0,r.getD 1 0)) ∘ vy)=id from rfl,List.map_id] at this
def qS (p q:Int×Int):Prop:=p.1<q.1\/(p.1=q.1/\p.2<=q.2)
theorem eK (ps:List (Int×Int)):(t7 ps).Pairwise qS:=by
 have h:=L4.jn (ps.map vy);rw[<- eL,List.pairwise_map] at h;refine h.imp λ{p q} hpq=>?_;unfold vy at hpq;rw[HT.sP,HT.sP] at hpq;unfold qS;by_cases e:q.1=p.1
 .rw[if_pos e] at hpq;by_cases e2:q.2=p.2
  .omega
  .rw[if_neg e2] at hpq;have:=of_decide_eq_false hpq;omega
 .rw[if_neg e] at hpq;have:=of_decide_eq_false hpq;omega
theorem X3 (ps:List (Int×Int)):vX (ps.map zr)=some (ps.map vy):=by
 have:=jR (ps.map vy)
 rwa [List.map_map,show yt ∘ vy=zr from rfl] at this
noncomputable def xW (q p:Int×Int):Bool:=decide (p.1<=q.1)&&decide (p.2<=q.2)
noncomputable def yf (ps:List (Int×Int)) (q:Int×Int):Bool:=ps.any (xW q)
theorem xH {ps:List (Int×Int)}{q:Int×Int}:yf ps q=true↔∃ p∈ps,p.1<=q.1/\p.2<=q.2:=by
 unfold yf xW;simp[List.any_eq_true]
theorem R1 {ps qs:List (Int×Int)}(h:ps.Perm qs) (q:Int×Int):yf ps q=yf qs q:=by
 rw[Bool.eq_iff_iff,xH,xH];exact⟨λ⟨p,h1,h2⟩=>⟨p,h.mem_iff.mp h1,h2⟩,λ⟨p,h1,h2⟩=>⟨p,h.mem_iff.mpr h1,h2⟩⟩
theorem R3 (ps qs:List (Int×Int)) (q:Int×Int):yf (ps++qs) q=(yf ps q||yf qs q):=by
 unfold yf;rw[List.any_append]
def vv (ps:List (Int×Int)):Prop:=ps.Pairwise λ p q=>p.1<q.1/\q.2<p.2
theorem vv.eq:∀ {ps qs:List (Int×Int)},vv ps->vv qs->(∀ q,yf ps q=yf qs q)->ps=qs
 | [],[],_,_,_=>rfl
 | [],q::qs,_,_,h=>by
  have:=h q;rw[show yf [] q=false from rfl] at this;have h2:yf (q::qs) q=true:=xH.mpr ⟨q,zMc,Int.le_refl _,Int.le_refl _⟩;rw[h2] at this;cases this
 | p::ps,[],_,_,h=>by
  have:=h p;rw[show yf [] p=false from rfl] at this;have h2:yf (p::ps) p=true:=xH.mpr ⟨p,zMc,Int.le_refl _,Int.le_refl _⟩;rw[h2] at this;cases this
 | p::ps,q::qs,hp,hq,h=>by
  have hp1:=List.pairwise_cons.mp hp;have hq1:=List.pairwise_cons.mp hq;have a1:∃ r∈q::qs,r.1<=p.1/\r.2<=p.2:=xH.mp (by rw[<- h];exact xH.mpr ⟨p,zMc,Int.le_refl _,Int.le_refl _⟩);have a2:∃ r∈p::ps,r.1<=q.1/\r.2<=q.2:=xH.mp (by rw[h];exact xH.mpr ⟨q,zMc,Int.le_refl _,Int.le_refl _⟩);obtain⟨r,hr,r1,r2⟩:=a1;obtain⟨u,hu,u1,u2⟩:=a2;have qr:q.1<=r.1:=by
   rcases List.mem_cons.mp hr with e | e
   .subst e;exact Int.le_refl _
   .exact Int.le_of_lt (hq1.1 r e).1
  have pu:p.1<=u.1:=by
   rcases List.mem_cons.mp hu with e | e
   .subst e;exact Int.le_refl _
   .exact Int.le_of_lt (hp1.1 u e).1
  have e1:p.1=q.1:=by omega
  have er:r=q:=by
   rcases List.mem_cons.mp hr with e | e
   .exact e
   .have:=(hq1.1 r e).1;omega
  have eu:u=p:=by
   rcases List.mem_cons.mp hu with e | e
   .exact e
   .have:=(hp1.1 u e).1;omega
  subst er eu;have e2:u.2=r.2:=by omega
  have epq:u=r:=Prod.ext e1 e2;subst epq;rw[vv.eq hp1.2 hq1.2 λ x=>?_];have hx:=h x;unfold yf at hx ⊢;rw[List.any_cons,List.any_cons] at hx;cases g:xW x u with
  | false=>rw[g] at hx;simpa using hx
  | true=>
   have gx:u.1<=x.1/\u.2<=x.2:=by simpa [xW] using g
   have key:∀ {l:List (Int×Int)},(∀ v∈l,u.1<v.1/\v.2<u.2)->l.any (xW x)=l.any (xW (x.1,u.2-1)):=by
    intro l hl;rw[Bool.eq_iff_iff,List.any_eq_true,List.any_eq_true];constructor
    .rintro⟨v,hv,hg⟩;have:=hl v hv;have hg':v.1<=x.1/\v.2<=x.2:=by simpa [xW] using hg
     exact⟨v,hv,by simp[xW];omega⟩
    .rintro⟨v,hv,hg⟩;have:=hl v hv;have hg':v.1<=x.1/\v.2<=u.2-1:=by simpa [xW] using hg
     exact⟨v,hv,by simp[xW];omega⟩
   rw[key hp1.1,key hq1.1];have hy:=h (x.1,u.2-1);unfold yf at hy;rw[List.any_cons,List.any_cons] at hy;have gn:xW (x.1,u.2-1) u=false:=by
    unfold xW;rw[show decide (u.2<=(x.1,u.2-1).2)=false from decide_eq_false (by show ¬ u.2<=u.2-1;omega),Bool.and_false]
   rw[gn] at hy;simpa using hy
noncomputable def tj (l:Option Int) (x:Int):Bool:=match l with
 | none=>true
 | some m=>decide (x<m)
noncomputable def yR:List (Int×Int)->Option Int->List (Int×Int)
 | [],_=>[]
 | p::ps,l=>if tj l p.2=true then p::yR ps (some p.2) else yR ps l
noncomputable def w_ (ps:List (Int×Int)):List (Int×Int):=yR (t7 ps) none
theorem nk:∀ (ps:List (Int×Int)) (l:Option Int) (q:Int×Int),q∈yR ps l->q∈ps/\∀ m,l=some m->q.2<m
 | [],l,q,h=>by simp[yR] at h
 | p::ps,l,q,h=>by
  unfold yR at h;split at h
  .rename_i c;have hm:∀ m,l=some m->p.2<m:=λ m e=>by subst e;simpa [tj] using c
   rcases List.mem_cons.mp h with e | e
   .subst e;exact⟨zMc,hm⟩
   .obtain⟨h1,h2⟩:=nk ps _ q e;exact⟨zMo _ h1,λ m e=>by have:=h2 _ rfl;have:=hm m e;omega⟩
  .obtain⟨h1,h2⟩:=nk ps _ q h;exact⟨zMo _ h1,h2⟩
theorem hV:∀ (ps:List (Int×Int)) (l:Option Int),ps.Pairwise qS->vv (yR ps l)
 | [],l,_=>by simp[yR,vv]
 | p::ps,l,h=>by
  have h1:=List.pairwise_cons.mp h;unfold yR;split
  .refine List.pairwise_cons.mpr ⟨λ q hq=>?_,hV ps _ h1.2⟩;obtain⟨g1,g2⟩:=nk ps _ q hq;have:=h1.1 q g1;have:=g2 _ rfl;unfold qS at *;omega
  .exact hV ps _ h1.2
theorem hX:∀ (ps:List (Int×Int)) (l:Option Int),ps.Pairwise qS->∀ p∈ps,(∃ q∈yR ps l,q.1<=p.1/\q.2<=p.2)\/∃ m,l=some m/\m<=p.2
 | [],l,_,p,hp=>by cases hp
 | r::ps,l,h,p,hp=>by
  have h1:=List.pairwise_cons.mp h;unfold yR;split
  .rename_i c;rcases List.mem_cons.mp hp with e | e
   .subst e;exact .inl ⟨p,zMc,Int.le_refl _,Int.le_refl _⟩
   .rcases hX ps (some r.2) h1.2 p e with ⟨q,q1,q2⟩ | ⟨m,e1,e2⟩
    .exact .inl ⟨q,zMo _ q1,q2⟩
    .cases e1;have:=h1.1 p e;unfold qS at this;exact .inl ⟨r,zMc,by omega,e2⟩
  .rename_i c;rcases List.mem_cons.mp hp with e | e
   .subst e;cases l with
    | none=>simp[tj] at c
    | some m=>exact .inr ⟨m,rfl,by simpa [tj] using c⟩
   .exact hX ps l h1.2 p e
theorem iU (ps:List (Int×Int)):vv (w_ ps):=hV _ _ (eK ps)
theorem Tj {ps:List (Int×Int)}{q:Int×Int}(h:q∈w_ ps):q∈ps:=(jo ps).mem_iff.mp (nk _ _ q h).1
theorem lP (ps:List (Int×Int)) (q:Int×Int):yf (w_ ps) q=yf ps q:=by
 rw[<- R1 (jo ps) q,Bool.eq_iff_iff,xH,xH];constructor
 .rintro⟨p,h1,h2⟩;exact⟨p,(nk _ _ p h1).1,h2⟩
 .rintro⟨p,h1,h2⟩;rcases hX (t7 ps) none (eK ps) p h1 with ⟨r,r1,r2⟩ | ⟨m,e,_⟩
  .exact⟨r,r1,by omega,by omega⟩
  .cases e
end L5
namespace L2
open PySem PySem.Spec PyProof.Rows
section
variable {X:Cx}
def dw (K:PySem.W.Frag):R2:=λ x y H Q=>∃ l b xs zs,x=.ref l/\y=.ref b/\zQ K H l xs/\zQ K H b zs/\xs.length+zs.length<=sizeLine/\∀ p,H p=none->Q (.ref p) (upd H p (.lst (xs++zs)))
theorem VH:yr X (binaryOp .Add) (dw X.K):=by
 intro pins s σ H x y v u Q I rx ry h;obtain⟨l,b,xs,zs,rfl,rfl,hH,hB,hz,q⟩:=h;cases rx;cases ry;obtain⟨its,r,p1,_⟩:=I.list hH;obtain⟨its2,r2,p2,_⟩:=I.list hB;obtain⟨⟨cls,dd,data,sl⟩,ho,hc,n,hd⟩:=p1.isList;obtain⟨⟨cls2,dd2,data2,sl2⟩,ho2,hc2,n2,hd2⟩:=p2.isList;simp only at hc hd hc2 hd2;subst hc hd hc2 hd2;have e:its.toArray++its2.toArray=(its++its2).toArray:=by simp
 refine concat_meets ⟨_,ho,rfl⟩ ⟨_,ho2,rfl⟩ noFill_list_add seq_list_add PySem.F.slot_list_add PySem.F.entry_list_add (PySem.F.args_list_add_2 _ _) (list_addW l b its.toArray its2.toArray n n2 dd dd2 sl sl2 (by rw[List.size_toArray,List.size_toArray,<- r.length,<- r2.length];exact hz)) ⟨ho,ho2,?_⟩;rw[e];exact⟨.ref _,_,I.Tc (t':=s.toks) (r.append r2) (by rw[List.length_append];omega),rfl,q _ I.fresh⟩
def du (K:PySem.W.Frag):R2:=λ x y H Q=>∃ a b ys,x=.ref a/\y=.ref b/\yb K H a []/\yb K H b ys/\Q (.ref b) H
theorem VF:yr X (binaryOp .Add) (du X.K):=by
 intro pins s σ H x y v u Q I rx ry h;obtain⟨l,b,ys,rfl,rfl,hH,hB,q⟩:=h;cases rx;cases ry;obtain⟨its,r,p1,_⟩:=I.tuple hH;obtain⟨its2,r2,p2,_⟩:=I.tuple hB;obtain⟨⟨cls,dd,data,sl⟩,ho,hc,n,hd⟩:=id p1;obtain⟨⟨cls2,dd2,data2,sl2⟩,ho2,hc2,n2,hd2⟩:=id p2;simp only at hc hd hc2 hd2;subst hc hd hc2 hd2;exact concat_meets ⟨_,ho,rfl⟩ ⟨_,ho2,rfl⟩ noFill_tuple_add seq_tuple_add PySem.F.slot_tuple_add PySem.F.entry_tuple_add (PySem.F.args_tuple_add_2 _ _)
   (tuple_addW0 l b its.toArray its2.toArray n n2 dd dd2 sl sl2 (by cases r;rfl)) ⟨ho,ho2,⟨.ref b,H,I,rfl,q⟩⟩
end
end L2
namespace L5
open PySem PySem.Spec L2 L3
open PyProof.Rows hiding St
section
variable {X:Cx}{K:PySem.W.Frag}{a b c e:Expr}{es:List Expr}{ta tb tc te:zC}{tA:y6}{pos p:Pos}
theorem uk.mo:xP uk:=λ x y S Q Q' hq h=>by
 cases x with
 | zk=>exact h
 | bl _=>exact h
 | int i=>cases y <;> first | exact hq _ _ h | exact h
 | str i=>cases y <;> first | exact⟨h.1,hq _ _ h.2⟩ | exact h
 | tup i=>cases y <;> first | exact⟨h.1,hq _ _ h.2⟩ | exact h
 | yO ds=>
  unfold uk at h ⊢;dsimp only at h ⊢;split at h
  .exact⟨h.1,h.2.1,λ r hr=>hq _ _ (h.2.2 r hr)⟩
  .exact h.elim
 | ref q=>
  unfold uk at h ⊢;dsimp only at h ⊢;split at h
  .exact⟨h.1,h.2.1,λ r hr=>hq _ _ (h.2.2 r hr)⟩
  .exact h.elim
theorem rA {H:Hp}{S:SS}{d:D}{v:V}{ds:List D}(r:zg K H d v) (p:zN K H S) (e:zZ d S=some ds) (n:∀ ts,d≠.tup ts):∃ a xs,v=.ref a/\zQ K H a xs/\zq K H ds xs:=by
 unfold zZ at e;split at e
 .exact absurd rfl (n _)
 .cases e;simp only[zg] at r;obtain⟨a,xs,h1,h2,h3⟩:=r;exact⟨a,xs,h1,h2.sq,h3⟩
 .split at e
  .rename_i q;cases e;simp only[zg] at r;subst r;obtain⟨xs,h1,h2⟩:=p _ _ q;exact⟨_,xs,rfl,zQ.of h1,h2⟩
  .cases e
 .cases e
abbrev d9 (K:PySem.W.Frag):R2:=λ x y H Q=>wZ (λ i j=>.int (i+j)) x y H Q\/((∃ i j,x=.str i/\y=.str j/\i.length+j.length<=sizeLine/\Q (.str (i++j)) H)\/(dw K x y H Q\/(du K x y H Q\/dv K x y H Q)))
theorem uk.fits:xJ K uk (d9 K):=λ x y d e H S Q h1 h2 h3 h=>by
 have lst:(∀ ts,d≠.tup ts)->(match zZ d S,zZ e S with
  | some ds,some es=>(∀ ts,e≠.tup ts)/\ds.length+es.length<=sizeLine/\∀ r,S r=none->wQ K H Q (.ref r) (ups S r (.lst (ds++es)))
  | _,_=>False)->d9 K x y H Q:=λ n h=>by
  split at h
  .rename_i ds es q1 q2;obtain⟨a,xs,rfl,g1,g2⟩:=rA h1 h3 q1 n;obtain⟨b,ys,rfl,g3,g4⟩:=rA h2 h3 q2 h.1;refine .inr (.inr (.inl ⟨a,b,xs,ys,rfl,rfl,g1,g3,by rw[<- g2.length,<- g4.length];exact h.2.1,λ p hp=>?_⟩));exact h.2.2 p (h3.none hp) _ _ (by simp only[zg]) (.new hp _) (h3.ups (.new hp _) ⟨_,yL,zq.ext (.new hp _) _ (g2.append g4)⟩)
  .exact h.elim
 cases d with
 | zk=>exact h.elim
 | bl _=>exact h.elim
 | int i=>
  cases e with
  | int j=>
   simp only[zg] at h1 h2;exact .inl ⟨_,_,h1,h2,h _ H (by simp only[zg]) (.refl H) h3⟩
  | zk=>exact h.elim
  | bl _=>exact h.elim
  | str _=>exact h.elim
  | tup _=>exact h.elim
  | yO _=>exact h.elim
  | ref _=>exact h.elim
 | str i=>
  cases e with
  | str j=>
   simp only[zg] at h1 h2;exact .inr (.inl ⟨_,_,h1,h2,h.1,h.2 _ H (by simp only[zg]) (.refl H) h3⟩)
  | zk=>exact h.elim
  | bl _=>exact h.elim
  | int _=>exact h.elim
  | tup _=>exact h.elim
  | yO _=>exact h.elim
  | ref _=>exact h.elim
 | tup ds=>
  cases e with
  | tup es=>
   have h1':=h1;have h2':=h2;simp only[zg] at h1 h2;obtain⟨a,xs,rfl,g1,g2⟩:=h1;obtain⟨b,ys,rfl,g3,g4⟩:=h2;have hl:=g2.length;have hl':=g4.length;by_cases hx:xs=[]
   .subst hx;have:ds=[]:=by cases ds <;> simp_all
    subst this;exact .inr (.inr (.inr (.inl ⟨a,b,ys,rfl,rfl,g1,g3,h.2 _ H h2' (.refl H) h3⟩)))
   .refine .inr (.inr (.inr (.inr ⟨a,b,xs,ys,rfl,rfl,g1,g3,hx,by rw[<- hl,<- hl'];exact h.1,λ hy=>?_,λ hy p hp=>?_⟩)))
    .subst hy;have:es=[]:=by cases es <;> simp_all
     subst this;refine h.2 _ H ?_ (.refl H) h3;rw[List.append_nil];exact h1'
    .refine h.2 _ _ ?_ (.new hp _) (h3.new hp);simp only[zg];exact⟨p,_,rfl,yb.of yL,zq.ext (.new hp _) _ (g2.append g4)⟩
  | zk=>exact h.elim
  | bl _=>exact h.elim
  | int _=>exact h.elim
  | str _=>exact h.elim
  | yO _=>exact h.elim
  | ref _=>exact h.elim
 | yO ds=>exact lst (λ _=>nofun) h
 | ref q=>exact lst (λ _=>nofun) h
theorem we (ha:PD X a ta) (hb:PD X b tb):PD X (.BinOp a .Add b pos) (yw uk ta tb):=qM (VJ.or (VI.or (VH.or (VF.or VG)))) uk.fits uk.mo ha hb
theorem vK.mo {g:List Bool->Bool}:vR (vK g):=λ ds S Q Q' hq h=>by
 unfold vK at h ⊢;split at h
 .exact h.elim
 .obtain⟨bs,h1,h2⟩:=h;exact⟨bs,h1,hq _ _ h2⟩
 .exact h.elim
theorem vK.fits {g:List Bool->Bool}:uF K (vK g) (λ xs H Q=>∃ p,∃ bs:List Bool,xs=[.ref p]/\zQ K H p (bs.map V.bl)/\Q (.bl (g bs)) H):=λ xs ds H S Q h0 h2 h=>by
 unfold vK at h;split at h
 .exact h.elim
 .rename_i d hn;obtain⟨x,hx,h1⟩:=h0.one;subst hx;obtain⟨bs,e,h⟩:=h;obtain⟨a,ys,rfl,g1,g2⟩:=rA h1 h2 e (λ ts z=>hn ts z);rw[g2.bools] at g1;exact⟨a,bs,rfl,g1,h _ H (by simp only[zg]) (.refl H) h2⟩
 .exact h.elim
theorem Vx (hm:X.mg "all"=none) (ha:xO X (e::es) tA) (hc:X.calm=true:=by rfl) (hg:Gl X "all":=by rfl) (he:starEach (e::es) X.env=(false,eval e X.env)::starEach es X.env:=by rfl) (hpl:(backTo pos (starEach es X.env)).any (·.1)=false:=by rfl):PD X (.Call (.Name "all" p) (e::es) [] pos) (xK (vK λ bs=>bs.all id) tA):=
 uQ (tB (Qa hc) hg hm boot_all ha.pa (by decide) (by decide) he hpl) vK.mo vK.fits ha.mo
theorem Vv (hm:X.mg "any"=none) (ha:xO X (e::es) tA) (hc:X.calm=true:=by rfl) (hg:Gl X "any":=by rfl) (he:starEach (e::es) X.env=(false,eval e X.env)::starEach es X.env:=by rfl) (hpl:(backTo pos (starEach es X.env)).any (·.1)=false:=by rfl):PD X (.Call (.Name "any" p) (e::es) [] pos) (xK (vK λ bs=>bs.any id) tA):=
 uQ (tB (R_ hc) hg hm boot_any ha.pa (by decide) (by decide) he hpl) vK.mo vK.fits ha.mo
theorem TK {H:Hp}{d:D}{v:V}(r:zg K H d v):decide (v=.zk)=qW d:=by
 cases d with
 | zk=>simp only[zg] at r;subst r;rfl
 | bl _=>simp only[zg] at r;subst r;rfl
 | int _=>simp only[zg] at r;subst r;rfl
 | str _=>simp only[zg] at r;subst r;rfl
 | tup _=>simp only[zg] at r;obtain⟨a,xs,rfl,_⟩:=r;rfl
 | yO _=>simp only[zg] at r;obtain⟨a,xs,rfl,_⟩:=r;rfl
 | ref _=>simp only[zg] at r;subst r;rfl
theorem l6 (ha:PD X a ta):PD X (.UnaryOp .USub a pos) (ar ta):=by
 refine⟨fun δ S Q Q' hq h=>ha.mo δ S _ _ (λ x S1 z=>by
  cases x <;> first
   | exact hq _ _ z
   | exact z) h,PE.imp (W0 Yy ha.pe) fun σ H Q hu=>?_⟩
 obtain⟨δ,S,r1,r2,h⟩:=hu;refine zO.go ha.mo r1 r2 h λ x S1 v H1 h1 q1 e1 p1=>?_;cases x with
 | int i=>simp only[zg] at q1;exact⟨i,q1,h1 _ H1 (by simp only[zg]) e1 p1⟩
 | zk=>exact h1.elim
 | bl _=>exact h1.elim
 | str _=>exact h1.elim
 | tup _=>exact h1.elim
 | yO _=>exact h1.elim
 | ref _=>exact h1.elim
section
variable {N':List Str}{pick:List (Option Nat)}{scope:Scope}{tg elt iter:Expr}{ifs:List Expr}{ti:wR}{g:xq}{tcc:yJ}
theorem tS.mo (hi:kL ti):yo (tS pick ti g tcc te):=fun δ S Q Q' hq z=>hi δ S _ _ (λ I S1 ⟨h1,h2,h3⟩=>⟨h1,h2,λ p hp=>by
 obtain⟨W,w0,w1,w2,w3⟩:=h3 p hp;exact⟨W,w0,w1,w2,λ S2 acc a b c=>hq _ _ (w3 S2 acc a b c)⟩⟩) z
theorem eh (hi:kL ti) (hg:mm g) (hc:wW tcc) (he:yo te) {σ:St}{H:Hp}{Q:VK}(hu:zO K (tS pick ti g tcc te) σ H Q):ji pick (wG K ti) (pY K g) (w9 K tcc) (zO K te) σ H Q:=by
 obtain⟨δ,S,r1,r2,z⟩:=hu;refine⟨δ,S,r1,r2,hi δ S _ _ (λ I S1 hF J H1 e1 p1 rep D hD=>?_) z⟩;obtain⟨hlen,hk,hF⟩:=hF;have hS1:S1 D=none:=p1.none hD;obtain⟨W,w0,wm,wstep,wfin⟩:=hF D hS1;refine⟨λ i m σ H2=>m=I.items.length-i/\i<=I.items.length/\Ext H1 H2/\xa K H2 (ua pick δ) σ/\∃ S2 acc,zN K H2 S2/\Sx S1 S2/\S2 D=some (.lst acc)/\acc.length<=i/\W i S2 acc,⟨_,rfl,Nat.zero_le _,.new hD _,((r1.ext e1).pick pick).ext (.new hD _),ups S1 D (.lst []),[],?_,.new hS1 _,sr,Nat.le_refl _,?_⟩,?_⟩
 .exact p1.ups (.new hD _) ⟨[],yL,.nil⟩
 .exact wm 0 S1 _ [] (λ b o hb q=>by rw[uI hb];exact q) w0
 rintro i m σ2 H2 ⟨rfl,hi',x2,q1,S2,acc,q2,sx,hS2,hacc,hW⟩;obtain⟨g1,g2⟩:=rep i H2 S2 x2 q2 (hk S2 sx);by_cases hl:i<I.items.length
 .have hd:I.items[i]?=some I.items[i]:=by simp[hl]
  obtain⟨go,yl⟩:=g1 _ hd;refine .inr ⟨go,λ x H3 hy=>?_⟩;obtain⟨x3,p3,d3⟩:=yl x H3 hy;refine⟨_,_,S2,d3,q1.ext x3,p3,hg _ _ S2 _ _ (fun δ4 S4 z4 σ4 H4 a1 a2 a3=>?_) (wstep i _ S2 acc hd sx hS2 hW)⟩;obtain⟨hle,z4⟩:=z4;refine w9.go hc a1 a3 z4 λ b S5 H5 z5 x5 p5=>vb (λ z5=>?_) (λ z5=>?_) z5
  .refine zO.go he (a1.ext x5) p5 z5 λ y S6 v H6 z6 q6 x6 p6=>?_;obtain⟨s6,hW6⟩:=z6;obtain⟨ys,h6,r6⟩:=p6 _ _ (s6 _ _ hS2);have e6:Ext H6 (upd H6 D (.lst (ys++[v]))):=.lst h6 _;have hlen2:ys.length<=i:=by rw[<- r6.length];exact hacc
   refine⟨ys,I.items.length-(i+1),h6,by omega,by omega,rfl,hl,((((x2.trans x3).trans a2).trans x5).trans x6).trans e6,hle.rep ((a1.ext (x5.trans x6)).ext e6),ups S6 D (.lst (acc++[y])),acc++[y],?_,λ b o hb=>?_,sr,by simp;omega,?_⟩
   .exact p6.ups e6 ⟨_,yL,zq.ext e6 _ (r6.snoc q6)⟩
   .rw[uI (by intro q;subst q;rw[hS1] at hb;cases hb)];exact s6 _ _ (sx _ _ hb)
   .exact wm _ S6 _ _ (λ b o hb q=>by rw[uI hb];exact q) hW6
  .obtain⟨s5,hW5⟩:=z5;exact⟨I.items.length-(i+1),by omega,rfl,hl,((x2.trans x3).trans a2).trans x5,hle.rep (a1.ext x5),S5,acc,p5,sx.trans s5,s5 _ _ hS2,by omega,hW5⟩
 .have e:i=I.items.length:=by omega
  subst e;exact .inl ⟨g2 (Nat.le_refl _),wfin S2 acc sx hS2 hW _ H2 (by simp only[zg]) (e1.trans x2) q2⟩
theorem rG (Sc:qv X N' pick scope) (hc:X.calm=true) (hi:rf X tg iter ti) (hg:∀ cl C s H fp,tY (yZ X N' scope cl C s H fp) tg g) (hf:∀ cl C s H fp,kG (yZ X N' scope cl C s H fp) ifs tcc) (he:∀ cl C s H fp,PD (yZ X N' scope cl C s H fp) elt te)
  (hs:∀ x,foldedSetIterable iter X.env x=pure x:=by intro _;rfl):
  PD X (.ListComp elt [⟨tg,iter,ifs,0⟩] scope pos) (tS pick ti g tcc te):=
 ⟨tS.mo hi.mo,λ pins s σ H Q I hu=>W9 (g:=pY X.K g) (tc:=w9 X.K tcc) (te:=zO X.K te) Sc hc hi.pi (λ cl C s H fp=>(hg cl C s H fp).pg) (λ cl C s H fp=>(hf cl C s H fp).pf) (λ cl C s H fp=>(he cl C s H fp).pe) hs pins s σ H Q I (eh hi.mo (hg [] 0 s H []).mo (hf [] 0 s H []).mo (he [] 0 s H []).mo hu)⟩
theorem l4 {i:Nat}{y:Str}{py spos:Pos}(Sc:qv X N' pick scope) (hc:X.calm=true) (hi:rf X tg iter ti) (hg:∀ cl C s H fp,tY (yZ X N' scope cl C s H fp) tg g) (hf:∀ cl C s H fp,kG (yZ X N' scope cl C s H fp) ifs tcc) (he:∀ cl C s H fp,PD (yZ X N' scope cl C s H fp) elt te)
  (hN:X.N.Nodup) (hy:X.N[i]?=some y) (hx:Loc X.env.scope y)
  (hsw:swapsWith (.ListComp elt [⟨tg,iter,ifs,0⟩] scope pos) (some (.Name y py)) spos.line X.env=pure true:=by rfl)
  (hfn:X.fn y=true\/X.env.scope.names.lookup y=some .local:=by first | exact .inl rfl | exact .inr rfl | assumption)
  (hs:∀ x,foldedSetIterable iter X.env x=pure x:=by intro _;rfl):
  vq X (.Assign [.Name y py] (.ListComp elt [⟨tg,iter,ifs,0⟩] scope pos) spos) (vo (tS pick ti g tcc te) (hName i)):=by
 refine⟨vo.mo (tS.mo hi.mo) λ _ _ _ _ _ hq z=>hq _ _ z,λ pins s σ H D I hu=>XY (g:=pY X.K g) (tc:=w9 X.K tcc) (te:=zO X.K te) Sc hc hi.pi (λ cl C s H fp=>(hg cl C s H fp).pg) (λ cl C s H fp=>(hf cl C s H fp).pf) (λ cl C s H fp=>(he cl C s H fp).pe) hN hy hx hsw hfn hs pins s σ H D I ?_⟩;obtain⟨δ,S,r1,r2,z⟩:=hu;refine eh hi.mo (hg [] 0 s H []).mo (hf [] 0 s H []).mo (he [] 0 s H []).mo ⟨δ,S,r1,r2,tS.mo hi.mo δ S _ _ (λ x S1 z v H1 q1 e1 p1=>?_) z⟩;exact z _ H1 ((r1.ext e1).set i q1) e1 p1
end
end
section
variable {P:Program}{w:World}{K:PySem.W.Frag}{mg:Str->Option Value}{base:Heap}{f:Addr}{fd:FuncData}
theorem SH {R:Rk} [Lo R] {x:Str}{st:Stmt}{N ps:List Str}{k n:Nat}{g:Sm}(F:uz K x x st f fd) (Sc:yp N ps (zJ st)) (hn:n=ps.length)
  (hbody:∀ (cdv:Value) (A:Around) (outer:List Env) (s:Shared) (H:Hp) (E:XK),y9 k (A.deeper (envOfC x (zJ st) s.heap.objs.size f cdv))->
   ∃ t,vQ (uC wX P w K mg base N x (zJ st) f cdv A outer s H E).tJ (ve st) t/\yv R g t):vU P w K mg base wX (k+1) f fd ps (uJ K (yj R (ye N n g))):=
 bE F Sc (λ ds S Q h=>by rw[h.len,hn]) λ cdv A outer s H E hr=>by
  obtain⟨t,h1,h2⟩:=hbody cdv A outer s H E hr;exact⟨t,h1,λ ds S Q h=>Qf h2 h⟩
theorem SO {R:Rk} [Lo R] {x:Str}{st:Stmt}{N ps:List Str}{k n:Nat}{g:Sm}(F:uz K x x st f fd) (hm:mg x=some (.ref f)) (Sc:yp N ps (zJ st)) (hn:n=ps.length)
  (hb:∀ (kV doc pm:Value) (an:Option Addr) (cdv ct:Value) (us:List Value),us.length=ps.length->bindArgs (PySem.W.fnOf x x (tR st) (ve st) (zJ st) .none kV doc pm an cdv ct) ⟨us,[]⟩=pure (ps.zip us))
  (hbody:∀ (cdv:Value) (A:Around) (outer:List Env) (s:Shared) (H:Hp) (E:XK),y9 k (A.deeper (envOfC x (zJ st) s.heap.objs.size f cdv))->
   ∃ t,vQ (uC wX P w K mg base N x (zJ st) f cdv A outer s H E).tJ (ve st) t/\yv R g t):FD P w K mg base x (k+1) ps (yj R (ye N n g)):=
 ⟨⟨f,fd,SH F Sc hn hbody,hm,F.kp,F.binds hb⟩,yj.mo⟩
end
end L5
namespace ST
open PySem PySem.SetTable
def uE (xs:List Nat):Prop:=xs.Pairwise (· < ·)
theorem gg {xs:Array Nat}{m d:Nat}(h:m<xs.size):xs.getD m d=xs[m]:=by simp[Array.getD,h]
theorem gG (xs:Array Nat) (j:Nat) (hr:uE xs.toList):∀ (f lo hi:Nat),hi-lo<=f->lo<=hi->hi<=xs.size->(∀ i (h:i<xs.size),i<lo->xs[i]<j)->(∀ i (h:i<xs.size),hi<=i->j<=xs[i])->
  below.go xs j f lo hi<=xs.size/\(∀ i (h:i<xs.size),i<below.go xs j f lo hi->xs[i]<j)/\∀ i (h:i<xs.size),below.go xs j f lo hi<=i->j<=xs[i]
 | 0,lo,hi,h1,h2,h3,h4,h5=>by
  unfold below.go;have:lo=hi:=by omega
  subst this;exact⟨h3,h4,h5⟩
 | f+1,lo,hi,h1,h2,h3,h4,h5=>by
  unfold below.go;have wJ:∀ i k (hi:i<xs.size) (hk:k<xs.size),i<=k->xs[i]<=xs[k]:=λ i k hi hk hik=>by
   rcases Nat.lt_or_ge i k with q | q
   .have r:=List.pairwise_iff_getElem.mp hr i k (by simpa using hi) (by simpa using hk) q;rw[Array.getElem_toList,Array.getElem_toList] at r;exact Nat.le_of_lt r
   .have:i=k:=by omega
    subst this;exact Nat.le_refl _
  by_cases hl:lo<hi
  .rw[if_pos hl];dsimp only;have hm:(lo+hi)/2<xs.size:=by omega
   rw[gg hm];by_cases c:xs[(lo+hi)/2]<j
   .rw[if_pos c];refine gG xs j hr f _ hi (by omega) (by omega) h3 (λ i hi' hlt=>?_) h5;have:=wJ i ((lo+hi)/2) hi' hm (by omega);omega
   .rw[if_neg c];refine gG xs j hr f lo _ (by omega) (by omega) (by omega) h4 (λ i hi' hge=>?_);have:=wJ ((lo+hi)/2) i hm hi' hge;omega
  .rw[if_neg hl];have:lo=hi:=by omega
   subst this;exact⟨h3,h4,h5⟩
theorem k4 {xs:Array Nat}{j:Nat}(hr:uE xs.toList):below xs j<=xs.size/\(∀ i (h:i<xs.size),i<below xs j->xs[i]<j)/\∀ i (h:i<xs.size),below xs j<=i->j<=xs[i]:=
 gG xs j hr xs.size 0 xs.size (by omega) (by omega) (Nat.le_refl _) (λ i h q=>by omega) (λ i h q=>by omega)
theorem below_at {xs:Array Nat}{j i:Nat}(hr:uE xs.toList) (h:xs[i]?=some j):below xs j=i:=by
 obtain⟨h1,h2,h3⟩:=k4 (j:=j) hr;obtain⟨hi,e⟩:=Array.getElem?_eq_some_iff.mp h;have a:¬ i<below xs j:=λ q=>by have:=h2 i hi q;omega
 have b:¬ below xs j<i:=λ q=>by
  have:=h3 (below xs j) (by omega) (Nat.le_refl _);have r:=List.pairwise_iff_getElem.mp hr (below xs j) i (by simp;omega) (by simpa using hi) q;simp at r;omega
 omega
theorem Ql {xs:Array Nat}{j:Nat}(hr:uE xs.toList):(xs[below xs j]?=some j)↔j∈xs.toList:=by
 constructor
 .intro h;obtain⟨hi,e⟩:=Array.getElem?_eq_some_iff.mp h;rw[<- e];simp
 .intro h;obtain⟨i,hi,e⟩:=List.mem_iff_getElem.mp h;have hx:xs[i]?=some j:=by
   simp at hi;simp[hi] at e ⊢;exact e
  rw[below_at hr hx];exact hx
noncomputable def ur (M:Nat) (p:Probe):Probe:=
 if p.more>0 then { p with j:=p.j+1,more:=p.more-1 } else
 let (i,perturb):=leap M p.i p.perturb
 { p with j:=i,more:=runEnd M i-i,i,perturb }
theorem gO (t:SetTable) (p:Probe):t.advance p=ur t.mask p:=rfl
noncomputable def qD (M i perturb:Nat):Probe:={ j:=i,more:=runEnd M i-i,i:=i,perturb:=perturb,dummy:=none }
noncomputable def way (M:Nat) (h:Int):Nat->Probe
 | 0=>qD M (bits h%(M+1)) (bits h)
 | k+1=>ur M (way M h k)
theorem Qr (M:Nat) (p:Probe) (h:p.dummy=none):(ur M p).dummy=none:=by
 unfold ur;split
 .exact h
 .exact h
theorem kY (M:Nat) (h:Int):∀ k,(way M h k).dummy=none
 | 0=>rfl
 | k+1=>Qr M _ (kY M h k)
noncomputable def ya (M:Nat) (h:Int):Nat->Nat×Nat
 | 0=>(bits h%(M+1),bits h)
 | n+1=>leap M (ya M h n).1 (ya M h n).2
theorem jP (M i pt:Nat) (h:Int) (k:Nat) (hk:way M h k=qD M i pt):∀ m,m<=runEnd M i-i->way M h (k+m)={ j:=i+m,more:=runEnd M i-i-m,i:=i,perturb:=pt,dummy:=none }
 | 0,_=>by rw[Nat.add_zero,hk];rfl
 | m+1,hm=>by
  have ih:=jP M i pt h k hk m (by omega);show ur M (way M h (k+m))=_;rw[ih];unfold ur;rw[if_pos (by show runEnd M i-i-m>0;omega)];simp only[Probe.mk.injEq];exact⟨by omega,by omega,trivial,trivial,trivial⟩
theorem X2 (M i:Nat):runEnd M i-i<=9:=by unfold runEnd;split <;> omega
theorem eX (M:Nat) (h:Int) (n k:Nat) (hk:way M h k=qD M (ya M h n).1 (ya M h n).2):way M h (k+(runEnd M (ya M h n).1-(ya M h n).1)+1)=qD M (ya M h (n+1)).1 (ya M h (n+1)).2:=by
 have:=jP M _ _ h k hk _ (Nat.le_refl _);show ur M (way M h (k+_))=_;rw[this];unfold ur;rw[if_neg (by show ¬ _-_-(_-_)>0;omega)];rfl
theorem eY (M:Nat) (h:Int):∀ n,∃ k,k<=10*n/\way M h k=qD M (ya M h n).1 (ya M h n).2
 | 0=>⟨0,by omega,rfl⟩
 | n+1=>by
  obtain⟨k,h1,h2⟩:=eY M h n;have:=X2 M (ya M h n).1;exact⟨_,by omega,eX M h n k h2⟩
theorem Qj (h:Int):bits h<2 ^ 64:=by
 unfold bits;have h1:=Int.emod_nonneg h (show (2 ^ 64:Int)≠0 by decide);have h2:=Int.emod_lt_of_pos h (show (0:Int)<2 ^ 64 by decide);omega
theorem dH (M:Nat) (h:Int):∀ n,(ya M h n).2*32 ^ n<=bits h
 | 0=>by simp[ya]
 | n+1=>by
  have ih:=dH M h n;show ((ya M h n).2/32)*32 ^ (n+1)<=_;have:(ya M h n).2/32*32<=(ya M h n).2:=Nat.div_mul_le_self _ _
  calc (ya M h n).2/32*32 ^ (n+1)=((ya M h n).2/32*32)*32 ^ n:=by rw[Nat.pow_succ,Nat.mul_comm (32 ^ n) 32,Nat.mul_assoc]
   _<=(ya M h n).2*32 ^ n:=Nat.mul_le_mul_right _ this
   _<=_:=ih
theorem Wx (M:Nat) (h:Int) (n:Nat) (hn:13<=n):(ya M h n).2=0:=by
 rcases Nat.eq_zero_or_pos (ya M h n).2 with q | q
 .exact q
 .have h1:=dH M h n;have h2:=Qj h;have h3:32 ^ 13<=32 ^ n:=Nat.pow_le_pow_right (by decide) hn;have h4:1*32 ^ n<=(ya M h n).2*32 ^ n:=Nat.mul_le_mul_right _ q;have h5:(2:Nat) ^ 64<32 ^ 13:=by decide
  omega
noncomputable def tF (M:Nat) (i:Nat):Nat->Nat
 | 0=>i
 | n+1=>(tF M i n*5+1)%(M+1)
theorem cL (M:Nat) (h:Int):∀ n,(ya M h (13+n)).1=tF M (ya M h 13).1 n
 | 0=>rfl
 | n+1=>by
  have ih:=cL M h n;have hz:=Wx M h (13+n) (by omega);show ((ya M h (13+n)).1*5+1+(ya M h (13+n)).2/32)%(M+1)=_;rw[hz,ih];rfl
theorem oH (M i:Nat):∀ a b,tF M i (a+b)=tF M (tF M i a) b
 | a,0=>rfl
 | a,b+1=>by
  show (tF M i (a+b)*5+1)%(M+1)=_;rw[oH M i a b];rfl
noncomputable def oG (M:Nat):Nat->Nat->List Nat
 | 0,_=>[]
 | n+1,i=>i::oG M n ((i*5+1)%(M+1))
theorem iz (M:Nat):∀ n i x,x∈oG M n i->∃ k,k<n/\tF M i k=x
 | 0,i,x,h=>by cases h
 | n+1,i,x,h=>by
  rcases List.mem_cons.mp h with e | e
  .exact⟨0,by omega,e.symm⟩
  .obtain⟨k,h1,h2⟩:=iz M n _ x e;exact⟨k+1,by omega,by rw[Nat.add_comm,oH];exact h2⟩
def vu (M:Nat):Prop:=M=7\/M=31\/M=127
theorem V0 (M:Nat) (hM:vu M):(∀ e,e<=M->e∈oG M (M+1) 0)/\tF M 0 (M+1)=0:=by
 have key:∀ M,((List.range (M+1)).all λ e=>(oG M (M+1) 0).contains e)=true->∀ e,e<=M->e∈oG M (M+1) 0:=λ M h e he=>by
  have:=List.all_eq_true.mp h e (List.mem_range.mpr (by omega));simpa using this
 rcases hM with rfl | rfl | rfl
 .exact⟨key 7 (by decide +kernel),by decide +kernel⟩
 .exact⟨key 31 (by decide +kernel),by decide +kernel⟩
 .exact⟨key 127 (by decide +kernel),by decide +kernel⟩
theorem Vz (M:Nat) (hM:vu M) (i e:Nat) (hi:i<=M) (he:e<=M):∃ n,n<=M/\tF M i n=e:=by
 obtain⟨h1,h2⟩:=V0 M hM;obtain⟨a,a1,a2⟩:=iz M _ _ _ (h1 i hi);obtain⟨b,b1,b2⟩:=iz M _ _ _ (h1 e he);rcases Nat.lt_or_ge b a with q | q
 .refine⟨M+1+b-a,by omega,?_⟩;rw[<- a2,<- oH,show a+(M+1+b-a)=(M+1)+b by omega,oH,h2,b2]
 .refine⟨b-a,by omega,?_⟩;rw[<- a2,<- oH,show a+(b-a)=b by omega,b2]
theorem Tn (M:Nat) (h:Int):∀ n,(ya M h n).1<=M
 | 0=>by have:=Nat.mod_lt (bits h) (show 0<M+1 by omega);show bits h%(M+1)<=M;omega
 | n+1=>by
  have:=Nat.mod_lt ((ya M h n).1*5+1+(ya M h n).2/32) (show 0<M+1 by omega);show (_%(M+1):Nat)<=M;omega
theorem cM (M:Nat) (hM:vu M) (h:Int) (e:Nat) (he:e<=M):∃ n,n<M+14/\(ya M h n).1=e:=by
 obtain⟨n,h1,h2⟩:=Vz M hM (ya M h 13).1 e (Tn M h 13) he;exact⟨13+n,by omega,by rw[cL,h2]⟩
theorem Yq (M:Nat) (hM:vu M) (h:Int) (e:Nat) (he:e<=M):∃ k,k<10*(M+15)/\(way M h k).j=e:=by
 obtain⟨n,h1,h2⟩:=cM M hM h e he;obtain⟨k,k1,k2⟩:=eY M h n;exact⟨k,by omega,by rw[k2];exact h2⟩
end ST
namespace ST
open PySem PySem.SetTable
theorem fV (M:Nat) (h:Int):∀ k,(way M h k).j+(way M h k).more<=M/\(way M h k).i<=M
 | 0=>by
  have h1:bits h%(M+1)<=M:=by have:=Nat.mod_lt (bits h) (show 0<M+1 by omega);omega
  refine⟨?_,h1⟩;show bits h%(M+1)+(runEnd M (bits h%(M+1))-bits h%(M+1))<=M;unfold runEnd;split <;> omega
 | k+1=>by
  obtain⟨h1,h2⟩:=fV M h k;show (ur M (way M h k)).j+(ur M (way M h k)).more<=M/\(ur M (way M h k)).i<=M;unfold ur;split
  .rename_i c;exact⟨by show (way M h k).j+1+((way M h k).more-1)<=M;omega,h2⟩
  .have h3:((way M h k).i*5+1+(way M h k).perturb/32)%(M+1)<=M:=by have:=Nat.mod_lt ((way M h k).i*5+1+(way M h k).perturb/32) (show 0<M+1 by omega);omega
   refine⟨?_,h3⟩;show _%(M+1)+(runEnd M (_%(M+1))-_%(M+1))<=M;unfold runEnd;split <;> omega
theorem kX (M:Nat) (h:Int) (k:Nat):(way M h k).j<=M:=by have:=(fV M h k).1;omega
structure Tab (t:SetTable) (hs:List Int):Prop where
 mask:vu t.mask
 sY:t.dummies=#[]
 len:t.place.size=hs.length
 wJ:uE t.place.toList
 yx:∀ j∈t.place.toList,j<=t.mask
 oz:∀ (i:Nat) h j,hs[i]?=some h->t.place[i]?=some j->∃ k,(way t.mask h k).j=j/\∀ k'<k,(way t.mask h k').j∈t.place.toList
theorem Tab.live {t:SetTable}{hs:List Int}(T:Tab t hs) {i j:Nat}(h:t.place[i]?=some j):t.slot j=.live i:=by
 unfold SetTable.slot;dsimp only;rw[below_at T.wJ h,if_pos (by rw[h];simp)]
theorem Tab.empty {t:SetTable}{hs:List Int}(T:Tab t hs) {j:Nat}(h:j∉t.place.toList):t.slot j=.empty:=by
 unfold SetTable.slot;dsimp only;have n1:¬ (t.place[below t.place j]? == some j)=true:=λ q=>h ((Ql T.wJ).mp (by simpa using q));rw[if_neg n1,if_neg (by rw[T.sY];simp[has])]
theorem Tab.at {t:SetTable}{hs:List Int}(T:Tab t hs) {j:Nat}(h:j∈t.place.toList):∃ (i:Nat) (g:Int),t.place[i]?=some j/\hs[i]?=some g:=by
 obtain⟨i,hi,e⟩:=List.mem_iff_getElem.mp h;have hi':i<t.place.size:=by simpa using hi
 refine⟨i,hs[i]'(by rw[<- T.len];exact hi'),?_,by simp⟩;rw[Array.getElem?_eq_getElem hi'];rw[Array.getElem_toList] at e;rw[e]
theorem b9 {t:SetTable}{hs:List Int}(T:Tab t hs) {hashAt:Nat->Int}(hA:∀ (i:Nat) g,hs[i]?=some g->hashAt i=g) (h:Int):∀ (f k:Nat),(∃ e,k<=e/\e<k+f/\(way t.mask h e).j∉t.place.toList)->
  ∃ k1,k<=k1/\(∀ m,k<=m->m<k1->∃ (i:Nat) (g:Int),t.place[i]?=some (way t.mask h m).j/\hs[i]?=some g/\g≠h)/\
   ((way t.mask h k1).j∉t.place.toList/\probe.go t hashAt h f (way t.mask h k)=some (.empty (way t.mask h k1).j none)\/
    ∃ i,t.place[i]?=some (way t.mask h k1).j/\hs[i]?=some h/\probe.go t hashAt h f (way t.mask h k)=some (.candidate (way t.mask h k1).j i (way t.mask h (k1+1))))
 | 0,k,⟨e,h1,h2,_⟩=>by omega
 | f+1,k,⟨e,h1,h2,h3⟩=>by
  by_cases hm:(way t.mask h k).j∈t.place.toList
  .obtain⟨i,g,p1,p2⟩:=T.at hm;by_cases hg:g=h
   .refine⟨k,Nat.le_refl _,λ m a b=>by omega,.inr ⟨i,p1,by rw[<- hg];exact p2,?_⟩⟩;unfold probe.go;rw[T.live p1];dsimp only;rw[hA i g p2,if_pos (by simp[hg]),gO];rfl
   .have hne:e≠k:=λ q=>by subst q;exact h3 hm
    obtain⟨k1,q1,q2,q3⟩:=b9 T hA h f (k+1) ⟨e,by omega,by omega,h3⟩;have eq:probe.go t hashAt h (f+1) (way t.mask h k)=probe.go t hashAt h f (way t.mask h (k+1)):=by
     conv=>lhs;unfold probe.go
     rw[T.live p1];dsimp only;rw[hA i g p2,if_neg (by simp[hg]),gO];rfl
    rw[eq];refine⟨k1,by omega,λ m a b=>?_,q3⟩;rcases Nat.eq_or_lt_of_le a with w | w
    .subst w;exact⟨i,g,p1,p2,hg⟩
    .exact q2 m w b
  .refine⟨k,Nat.le_refl _,λ m a b=>by omega,.inl ⟨hm,?_⟩⟩;unfold probe.go;rw[T.empty hm,kY]
theorem cw {xs ys:List Nat}(hx:xs.Nodup) (h:∀ x∈xs,x∈ys):xs.length<=ys.length:=by
 induction xs generalizing ys with
 | nil=>simp
 | cons x xs ih=>
  have h1:=List.nodup_cons.mp hx;have hxy:=h x zMc;have:=ih h1.2 (ys:=ys.erase x) λ z hz=>by
   have hne:z≠x:=λ e=>h1.1 (e▸hz);exact (List.mem_erase_of_ne hne).mpr (h z (zMo _ hz))
  rw[List.length_erase_of_mem hxy] at this;have hp:=List.length_pos_of_mem hxy;simp only[List.length_cons];omega
theorem least {P:Nat->Prop}(k:Nat) (h:P k):∃ m,m<=k/\P m/\∀ m'<m,¬ P m':=by
 induction k using Nat.strongRecOn with
 | ind k ih=>
  rcases Classical.em (∃ m',m'<k/\P m') with ⟨m',h1,h2⟩ | q
  .obtain⟨m,g1,g2⟩:=ih m' h1 h2;exact⟨m,by omega,g2⟩
  .exact⟨k,Nat.le_refl _,h,λ m' hm hp=>q ⟨m',hm,hp⟩⟩
theorem SD {xs:List Nat}{M:Nat}(h:xs.length<=M):∃ e,e<=M/\e∉xs:=by
 rcases Classical.em (∃ e,e<=M/\e∉xs) with q | q
 .exact q
 .have:=cw (xs:=List.range (M+1)) (ys:=xs) List.nodup_range λ e he=>by
   have:=List.mem_range.mp he;rcases Classical.em (e∈xs) with w | w
   .exact w
   .exact absurd ⟨e,by omega,w⟩ q
  simp at this;omega
def fH (t:SetTable) (h:Int) (j:Nat):Prop:=j∉t.place.toList/\∃ k,(way t.mask h k).j=j/\∀ k'<k,(way t.mask h k').j∈t.place.toList
theorem Tab.first {t:SetTable}{hs:List Int}(T:Tab t hs) (hl:hs.length<=t.mask) (h:Int):∃ K,K<10*(t.mask+15)/\(way t.mask h K).j∉t.place.toList/\∀ k'<K,(way t.mask h k').j∈t.place.toList:=by
 obtain⟨e,e1,e2⟩:=SD (xs:=t.place.toList) (M:=t.mask) (by rw[Array.length_toList,T.len];exact hl);obtain⟨k,k1,k2⟩:=Yq t.mask T.mask h e e1;obtain⟨K,q1,q2,q3⟩:=least (P:=λ n=>(way t.mask h n).j∉t.place.toList) k (by rw[k2];exact e2);exact⟨K,by omega,q2,λ k' hk=>Classical.not_not.mp (q3 k' hk)⟩
theorem X5 {xs:List Nat}{j p:Nat}(h:uE xs) (h1:∀ x∈xs.take p,x<j) (h2:∀ x∈xs.drop p,j<x):uE (xs.take p++j::xs.drop p):=by
 refine List.pairwise_append.mpr ⟨h.sublist (List.take_sublist _ _),List.pairwise_cons.mpr ⟨h2,h.sublist (List.drop_sublist _ _)⟩,λ a ha b hb=>?_⟩;rcases List.mem_cons.mp hb with e | e
 .subst e;exact h1 a ha
 .have:=h1 a ha;have:=h2 b e;omega
theorem bp {α:Type}{xs:List α}{p i:Nat}{x y:α}(hp:p<=xs.length) (h:(xs.take p++x::xs.drop p)[i]?=some y):(i=p/\y=x)\/(i<p/\xs[i]?=some y)\/(p<i/\xs[i-1]?=some y):=by
 have hl:(xs.take p).length=p:=by rw[List.length_take];omega
 rcases Nat.lt_trichotomy i p with q | q | q
 .rw[List.getElem?_append_left (by omega),List.getElem?_take,if_pos q] at h;exact .inr (.inl ⟨q,h⟩)
 .subst q;rw[List.getElem?_append_right (by omega),hl] at h;simp at h;exact .inl ⟨rfl,h.symm⟩
 .rw[List.getElem?_append_right (by omega),hl] at h;obtain⟨d,hd⟩:∃ d,i-p=d+1:=⟨i-p-1,by omega⟩
  rw[hd] at h;simp only[List.getElem?_cons_succ,List.getElem?_drop] at h;refine .inr (.inr ⟨q,?_⟩);rw[show i-1=p+d by omega];exact h
theorem Tab.put {t:SetTable}{hs:List Int}(T:Tab t hs) {h:Int}{j:Nat}(F:fH t h j):
  (t.put j).2<=hs.length/\(t.put j).1={ t with place:=insertAt t.place (t.put j).2 j }/\Tab (t.put j).1 (hs.take (t.put j).2++h::hs.drop (t.put j).2):=by
 obtain⟨b1,b2,b3⟩:=k4 (xs:=t.place) (j:=j) T.wJ;obtain⟨fn,K,k1,k2⟩:=F;have e2:(t.put j).2=below t.place j:=rfl;have e1:(t.put j).1={ t with place:=insertAt t.place (t.put j).2 j }:=by
  show ({ t with place:=insertAt t.place (below t.place j) j,dummies:=_ }:SetTable)=_;rw[if_neg (by rw[T.sY];simp[has]),e2]
 have pl:(insertAt t.place (below t.place j) j).toList=t.place.toList.take (below t.place j)++j::t.place.toList.drop (below t.place j):=toList_insertAt _ _ _;have old:∀ x∈t.place.toList,x∈(insertAt t.place (below t.place j) j).toList:=λ x hx=>by
  rw[pl];have:=List.take_append_drop (below t.place j) t.place.toList;rw[<- this] at hx;rcases List.mem_append.mp hx with q | q
  .exact List.mem_append_left _ q
  .exact List.mem_append_right _ (zMo _ q)
 rw[e2] at e1 ⊢;refine⟨by rw[<- T.len];exact b1,e1,?_⟩;rw[e1];refine⟨T.mask,T.sY,?_,?_,?_,?_⟩
 .show (insertAt t.place (below t.place j) j).size=_;rw[<- Array.length_toList,pl];simp[T.len]
 .show uE (insertAt t.place (below t.place j) j).toList;rw[pl];refine X5 T.wJ (λ x hx=>?_) (λ x hx=>?_)
  .obtain⟨i,hi,e⟩:=List.mem_iff_getElem.mp hx;rw[List.length_take] at hi;rw[List.getElem_take,Array.getElem_toList] at e;rw[<- e];exact b2 i (by simp at hi;omega) (by omega)
  .obtain⟨i,hi,e⟩:=List.mem_iff_getElem.mp hx;rw[List.length_drop] at hi;rw[List.getElem_drop,Array.getElem_toList] at e;have h3:=b3 (below t.place j+i) (by simp at hi;omega) (by omega);have hm:x∈t.place.toList:=List.mem_of_mem_drop hx;have hne:x≠j:=λ q=>fn (q▸hm);omega
 .intro x hx;show x<=t.mask;have hx:x∈(insertAt t.place (below t.place j) j).toList:=hx;rw[pl] at hx;rcases List.mem_append.mp hx with q | q
  .exact T.yx x (List.mem_of_mem_take q)
  .rcases List.mem_cons.mp q with e | e
   .subst e;rw[<- k1];exact kX _ _ _
   .exact T.yx x (List.mem_of_mem_drop e)
 .intro i g x hg hx;show ∃ k,(way t.mask g k).j=x/\∀ k'<k,(way t.mask g k').j∈(insertAt t.place (below t.place j) j).toList;have hx:(insertAt t.place (below t.place j) j)[i]?=some x:=hx;rw[<- Array.getElem?_toList,pl] at hx;have hpl:below t.place j<=t.place.toList.length:=by simpa using b1
  have hpl':below t.place j<=hs.length:=by rw[<- T.len];exact b1
  rcases bp hpl hx with ⟨c1,c2⟩ | ⟨c1,c2⟩ | ⟨c1,c2⟩ <;> rcases bp hpl' hg with ⟨d1,d2⟩ | ⟨d1,d2⟩ | ⟨d1,d2⟩ <;> first
   | omega
   | (subst c2 d2;exact⟨K,k1,λ k' hk=>old _ (k2 k' hk)⟩)
   | (obtain⟨k,g1,g2⟩:=T.oz _ g x d2 (by rw[<- Array.getElem?_toList];exact c2)
      exact⟨k,g1,λ k' hk=>old _ (g2 k' hk)⟩)
end ST
namespace ST
open PySem PySem.SetTable
def rg (owner:Array (Option Nat)) (j:Nat):Prop:=∃ k,owner[j]?=some (some k)
theorem SM {P:Nat->Bool}{n k:Nat}(h:(List.range n).find? P=some k):k<n/\P k=true/\∀ k'<k,P k'=false:=by
 obtain⟨h1,as,bs,h2,h3⟩:=List.find?_eq_some_iff_append.mp h;have hlen:as.length=k:=by
  have e:(List.range n)[as.length]?=some k:=by rw[h2];simp
  have:=(List.getElem?_eq_some_iff.mp e)
  obtain⟨q1,q2⟩:=this;rw[List.getElem_range] at q2;exact q2
 have hk:k<n:=by
  have:k∈List.range n:=by rw[h2];simp
  exact List.mem_range.mp this
 refine⟨hk,h1,λ k' hk'=>?_⟩;have:k'∈as:=by
  have e:(List.range n)[k']?=some k':=List.getElem?_range (by omega);rw[h2,List.getElem?_append_left (by omega)] at e;exact List.mem_of_getElem? e
 have:=h3 k' this;simpa using this
theorem getD_none {owner:Array (Option Nat)}{j:Nat}(h:((owner.getD j (some 0)).isNone)=true):owner[j]?=some none:=by
 unfold Array.getD at h;split at h
 .rename_i hj;have e:owner[j]=none:=by simpa using h
  rw[Array.getElem?_eq_getElem hj,e]
 .simp at h
theorem bB {owner:Array (Option Nat)}{j:Nat}(hj:j<owner.size) (h:((owner.getD j (some 0)).isNone)=false):rg owner j:=by
 unfold Array.getD at h;rw[dif_pos hj] at h;cases q:owner[j] with
 | none=>simp[q] at h
 | some k=>exact⟨k,by rw[Array.getElem?_eq_getElem hj,q]⟩
theorem bG (M:Nat) (owner:Array (Option Nat)) (hsz:owner.size=M+1) (h:Int):∀ (fuel n kn:Nat),way M h kn=qD M (ya M h n).1 (ya M h n).2->(∀ q<kn,rg owner (way M h q).j)->
  (∃ n',n<=n'/\n'<n+fuel/\owner[(ya M h n').1]?=some none)->
  ∃ j q,layClean.free M owner fuel (ya M h n).1 (ya M h n).2=some j/\(way M h q).j=j/\owner[j]?=some none/\∀ q'<q,rg owner (way M h q').j
 | 0,n,kn,_,_,⟨n',h1,h2,_⟩=>by omega
 | fuel+1,n,kn,hk,ho,⟨n',h1,h2,h3⟩=>by
  have hre:runEnd M (ya M h n).1+1-(ya M h n).1=runEnd M (ya M h n).1-(ya M h n).1+1:=by unfold runEnd;split <;> omega
  have hwalk:∀ m,m<=runEnd M (ya M h n).1-(ya M h n).1->(way M h (kn+m)).j=(ya M h n).1+m:=λ m hm=>by rw[jP M _ _ h kn hk m hm]
  unfold layClean.free;cases hf:(List.range (runEnd M (ya M h n).1+1-(ya M h n).1)).find? (λ k=>(owner.getD ((ya M h n).1+k) (some 0)).isNone) with
  | some k=>
   obtain⟨f1,f2,f3⟩:=SM hf;refine⟨_,kn+k,rfl,hwalk k (by omega),getD_none f2,λ q' hq=>?_⟩;rcases Nat.lt_or_ge q' kn with w | w
   .exact ho q' w
   .have e:(way M h q').j=(ya M h n).1+(q'-kn):=by
     have:=hwalk (q'-kn) (by omega)
     rwa [show kn+(q'-kn)=q' by omega] at this
    have hle:=kX M h q';rw[e] at hle ⊢;exact bB (by omega) (f3 (q'-kn) (by omega))
  | none=>
   have f3:=List.find?_eq_none.mp hf;have occ:∀ m,m<=runEnd M (ya M h n).1-(ya M h n).1->rg owner ((ya M h n).1+m):=λ m hm=>by
    have hle:=kX M h (kn+m);rw[hwalk m hm] at hle;exact bB (by omega) (Bool.eq_false_iff.mpr (f3 m (List.mem_range.mpr (by omega))))
   have hne:n'≠n:=λ e=>by
    subst e;obtain⟨k,hk'⟩:=occ 0 (Nat.zero_le _);rw[Nat.add_zero] at hk';rw[hk'] at h3;cases h3
   dsimp only;obtain⟨j,q,r1,r2⟩:=bG M owner hsz h fuel (n+1) _ (eX M h n kn hk) (λ q hq=>by
    rcases Nat.lt_or_ge q kn with w | w
    .exact ho q w
    .have e:=hwalk (q-kn) (by omega);rw[show kn+(q-kn)=q by omega] at e;rw[e];exact occ _ (by omega)) ⟨n',by omega,by omega,h3⟩
   exact⟨j,q,r1,r2⟩
structure Lay (M:Nat) (hs:List Int) (owner:Array (Option Nat)) (m:Nat):Prop where
 size:owner.size=M+1
 below:∀ (j k:Nat),owner[j]?=some (some k)->k<m
 each:∀ (k:Nat),k<m->∃ (j:Nat),owner[j]?=some (some k)
 once:∀ (i j k:Nat),owner[i]?=some (some k)->owner[j]?=some (some k)->i=j
 oz:∀ (j k:Nat) h,owner[j]?=some (some k)->hs[k]?=some h->∃ q,(way M h q).j=j/\∀ q'<q,rg owner (way M h q').j
theorem Lay.none {M:Nat}(hM:vu M) {hs:List Int}{owner:Array (Option Nat)}{m:Nat}(L:Lay M hs owner m) (hm:m<=M):∃ (e:Nat),e<=M/\owner[e]?=some Option.none:=by
 rcases Classical.em (∃ (e:Nat),e<=M/\owner[e]?=some Option.none) with q | q
 .exact q
 .exfalso;have hall:∀ (e:Nat),e<=M->∃ (k:Nat),owner[e]?=some (some k):=λ e he=>by
   have hlt:e<owner.size:=by rw[L.size];omega
   cases w:owner[e] with
   | none=>exact absurd ⟨e,he,by rw[Array.getElem?_eq_getElem hlt,w]⟩ q
   | some k=>exact⟨k,by rw[Array.getElem?_eq_getElem hlt,w]⟩
  have:=cw (xs:=(List.range (M+1)).map λ e=>((owner[e]?).getD Option.none).getD 0) (ys:=List.range m) (by
   refine List.pairwise_map.mpr (List.Pairwise.imp_of_mem ?_ List.nodup_range);intro a b ha hb hne e;refine hne ?_;obtain⟨k,hk⟩:=hall a (by have:=List.mem_range.mp ha;omega);obtain⟨k',hk'⟩:=hall b (by have:=List.mem_range.mp hb;omega);rw[hk,hk'] at e;simp at e;subst e;exact L.once a b k hk hk') (λ x hx=>by
   obtain⟨e,he,rfl⟩:=List.mem_map.mp hx;obtain⟨k,hk⟩:=hall e (by have:=List.mem_range.mp he;omega);rw[hk];exact List.mem_range.mpr (L.below e k hk))
  simp at this;omega
theorem mV {α:Type}{xs:Array α}{j i:Nat}{a b:α}(h:(xs.setIfInBounds j a)[i]?=some b):(i=j/\b=a)\/(i≠j/\xs[i]?=some b):=by
 rw[Array.getElem?_setIfInBounds] at h;by_cases e:j=i
 .subst e;rw[if_pos rfl] at h;split at h
  .cases h;exact .inl ⟨rfl,rfl⟩
  .cases h
 .rw[if_neg e] at h;exact .inr ⟨λ q=>e q.symm,h⟩
theorem Lay.step {M:Nat}(hM:vu M) {hs:List Int}{owner:Array (Option Nat)}{m:Nat}{h:Int}(L:Lay M hs owner m) (hm:m<=M) (hh:hs[m]?=some h):
  ∃ j,layClean.free M owner (turns M) (bits h%(M+1)) (bits h)=some j/\Lay M hs (owner.setIfInBounds j (some m)) (m+1):=by
 obtain⟨e,e1,e2⟩:=L.none hM hm;obtain⟨n',n1,n2⟩:=cM M hM h e e1;obtain⟨j,q,r1,r2,r3,r4⟩:=bG M owner L.size h (turns M) 0 0 rfl (λ q hq=>by omega) ⟨n',by omega,by unfold turns;omega,by rw[n2];exact e2⟩;have hj:j<owner.size:=(Array.getElem?_eq_some_iff.mp r3).1;have keep:∀ x,rg owner x->rg (owner.setIfInBounds j (some m)) x:=λ x ⟨k,hk⟩=>by
  have hne:j≠x:=λ w=>by subst w;rw[r3] at hk;cases hk
  exact⟨k,by rw[Array.getElem?_setIfInBounds,if_neg hne];exact hk⟩
 have self:(owner.setIfInBounds j (some m))[j]?=some (some m):=by rw[Array.getElem?_setIfInBounds,if_pos rfl,if_pos hj]
 refine⟨j,r1,⟨by simp[L.size],λ x k hx=>?_,λ k hk=>?_,λ x y k hx hy=>?_,λ x k g hx hg=>?_⟩⟩
 .rcases mV hx with ⟨_,w⟩ | ⟨_,w⟩
  .cases w;omega
  .have:=L.below x k w;omega
 .rcases Nat.lt_or_ge k m with w | w
  .obtain⟨x,hx⟩:=L.each k w;have hne:j≠x:=λ w=>by subst w;rw[r3] at hx;cases hx
   exact⟨x,by rw[Array.getElem?_setIfInBounds,if_neg hne];exact hx⟩
  .have:k=m:=by omega
   subst this;exact⟨j,self⟩
 .rcases mV hx with ⟨w1,w⟩ | ⟨w1,w⟩ <;> rcases mV hy with ⟨v1,v⟩ | ⟨v1,v⟩
  .omega
  .cases w;have:=L.below y _ v;omega
  .cases v;have:=L.below x _ w;omega
  .exact L.once x y k w v
 .rcases mV hx with ⟨w1,w⟩ | ⟨w1,w⟩
  .cases w;rw[hh] at hg;cases hg;subst w1;exact⟨q,r2,λ q' hq=>keep _ (r4 q' hq)⟩
  .obtain⟨q,g1,g2⟩:=L.oz x k g w hg;exact⟨q,g1,λ q' hq=>keep _ (g2 q' hq)⟩
theorem cP {M:Nat}(hM:vu M) {hs:List Int}(hl:hs.length<=M+1):∀ (rest:List Int) (owner:Array (Option Nat)) (m:Nat),m<=hs.length->hs.drop m=rest->Lay M hs owner m->
  ∃ owner',rest.foldl (λ acc h=>do
   let (owner,k) <- acc
   let j <- layClean.free M owner (turns M) (bits h%(M+1)) (bits h)
   pure (owner.setIfInBounds j (some k),k+1)) (some (owner,m))=some (owner',hs.length)/\Lay M hs owner' hs.length
 | [],owner,m,hl2,hd,L=>by
  have hm:hs.length<=m:=List.drop_eq_nil_iff.mp hd;have e:m=hs.length:=by omega
  subst e;exact⟨owner,rfl,L⟩
 | h::rest,owner,m,hl2,hd,L=>by
  have hm:hs[m]?=some h:=by
   have:=congrArg (λ l=>l[0]?) hd;simpa using this
  have hlt:m<hs.length:=(List.getElem?_eq_some_iff.mp hm).1;obtain⟨j,j1,j2⟩:=L.step hM (by omega) hm;have hd':hs.drop (m+1)=rest:=by
   have:=congrArg List.tail hd;simpa using this
  obtain⟨o',h1,h2⟩:=cP hM hl rest _ (m+1) (by omega) hd' j2;refine⟨o',?_,h2⟩;rw[List.foldl_cons,<- h1];show _=_;congr 1;show ((layClean.free M owner (turns M) (bits h%(M+1)) (bits h)).bind λ j=>some (owner.setIfInBounds j (some m),m+1))=_;rw[j1];rfl
theorem Tr (M:Nat) (hs:List Int):Lay M hs (Array.replicate (M+1) Option.none) 0:=by
 have no:∀ (j k:Nat),(Array.replicate (M+1) (Option.none:Option Nat))[j]?≠some (some k):=λ j k h=>by
  rw[Array.getElem?_replicate] at h;split at h <;> cases h
 exact⟨by simp,λ j k h=>absurd h (no j k),λ k hk=>by omega,λ i j k h=>absurd h (no i k),λ j k h e=>absurd e (no j k)⟩
theorem Ts {M:Nat}(hM:vu M) (hashes:Array Int) (hl:hashes.size<=M+1):∃ owner,layClean M hashes=some owner/\Lay M hashes.toList owner hashes.size:=by
 obtain⟨o,h1,h2⟩:=cP hM (hs:=hashes.toList) (by simpa using hl) hashes.toList _ 0 (Nat.zero_le _) (by simp) (Tr M _);refine⟨o,?_,by simpa using h2⟩;unfold layClean;rw[<- Array.foldl_toList,h1];rfl
noncomputable def lives (M:Nat) (owner:Array (Option Nat)):List (Nat×Nat):=(List.range (M+1)).filterMap λ j=>(owner.getD j Option.none).map (j,·)
theorem getD_some {owner:Array (Option Nat)}{j k:Nat}:owner.getD j Option.none=some k↔owner[j]?=some (some k):=by
 unfold Array.getD;split
 .rename_i h;rw[Array.getElem?_eq_getElem h];simp
 .rename_i h;rw[Array.getElem?_eq_none (by omega)];simp
theorem rP {M:Nat}{owner:Array (Option Nat)}(hs:owner.size=M+1) {j k:Nat}:(j,k)∈lives M owner↔owner[j]?=some (some k):=by
 unfold lives;rw[List.mem_filterMap];constructor
 .rintro⟨x,hx,e⟩;obtain⟨y,e1,e2⟩:=zOm e;cases e2;exact getD_some.mp e1
 .intro h;have hj:=(Array.getElem?_eq_some_iff.mp h).1;exact⟨j,List.mem_range.mpr (by omega),by rw[getD_some.mpr h];rfl⟩
theorem cG (M:Nat) (owner:Array (Option Nat)):(lives M owner).Pairwise λ a b=>a.1<b.1:=by
 unfold lives;rw[List.pairwise_filterMap];refine List.Pairwise.imp ?_ List.pairwise_lt_range;intro a b hab x hx y hy;obtain⟨_,_,e1⟩:=zOm hx;obtain⟨_,_,e2⟩:=zOm hy;subst e1 e2;exact hab
theorem cQ {M:Nat}(hM:vu M) (finger moves:Nat) (led plain:Bool) (hashes:Array Int) (hl:hashes.size<=M+1):
  ∃ t order,laid M finger moves led plain hashes=some (t,order)/\t.mask=M/\t.finger=finger/\t.led=led/\t.plain=plain/\order.toList.Perm (List.range hashes.size)/\Tab t (order.toList.map λ k=>hashes.toList.getD k 0):=by
 obtain⟨owner,h1,L⟩:=Ts hM hashes hl;refine⟨_,_,by unfold laid;rw[h1];rfl,rfl,rfl,rfl,rfl,?_,?_⟩
 .show ((lives M owner).map (·.2)).toArray.toList.Perm _;rw[List.toList_toArray];refine (List.perm_ext_iff_of_nodup ?_ List.nodup_range).mpr λ k=>?_
  .refine List.pairwise_map.mpr (List.Pairwise.imp_of_mem ?_ (cG M owner));intro a b ha hb hab e;have h2:=(rP L.size (j:=a.1) (k:=a.2)).mp ha;have h3:=(rP L.size (j:=b.1) (k:=b.2)).mp hb;have e:a.2=b.2:=e;rw[e] at h2;have:=L.once _ _ _ h2 h3;omega
  .rw[List.mem_range];constructor
   .intro h;obtain⟨⟨j,k'⟩,h2,rfl⟩:=List.mem_map.mp h;exact L.below j _ ((rP L.size).mp h2)
   .intro h;obtain⟨j,hj⟩:=L.each k h;exact List.mem_map.mpr ⟨(j,k),(rP L.size).mpr hj,rfl⟩
 .have pl:∀ x,x∈(lives M owner).map (·.1)↔rg owner x:=λ x=>by
   constructor
   .intro h;obtain⟨⟨j,k⟩,h2,rfl⟩:=List.mem_map.mp h;exact⟨k,(rP L.size).mp h2⟩
   .rintro⟨k,hk⟩;exact List.mem_map.mpr ⟨(x,k),(rP L.size).mpr hk,rfl⟩
  refine⟨hM,rfl,?_,?_,?_,?_⟩
  .show ((lives M owner).map (·.1)).toArray.size=(((lives M owner).map (·.2)).toArray.toList.map _).length;simp
  .show uE ((lives M owner).map (·.1)).toArray.toList;rw[List.toList_toArray];exact List.pairwise_map.mpr (cG M owner)
  .intro x hx;show x<=M;have hx:x∈((lives M owner).map (·.1)).toArray.toList:=hx;rw[List.toList_toArray] at hx;obtain⟨k,hk⟩:=(pl x).mp hx;have:=(Array.getElem?_eq_some_iff.mp hk).1;rw[L.size] at this;omega
  .intro i g x hg hx;have hx:((lives M owner).map (·.1)).toArray[i]?=some x:=hx;have hg:(((lives M owner).map (·.2)).toArray.toList.map λ k=>hashes.toList.getD k 0)[i]?=some g:=hg;rw[List.getElem?_toArray,List.getElem?_map] at hx;rw[List.toList_toArray,List.getElem?_map,List.getElem?_map] at hg;obtain⟨p,p1,p2⟩:=zOm hx;rw[p1] at hg;simp only[Option.map_some,Option.some.injEq] at hg;obtain⟨j,k⟩:=p;cases p2;have hm:=(rP L.size).mp (List.mem_of_getElem? p1);have hk:=L.below _ _ hm;obtain⟨q,q1,q2⟩:=L.oz _ k g hm (by rw[<- hg];simp[hk]);refine⟨q,q1,λ q' hq=>?_⟩;show _∈((lives M owner).map (·.1)).toArray.toList;rw[List.toList_toArray];exact (pl _).mpr (q2 q' hq)
end ST
namespace ST
open PySem PySem.SetTable
section
variable {prog:Program}{w:World}{A:Around}{E:Value->Shared->Prop}{s:Shared}
abbrev rk (prog:Program) (w:World):HeapKind prog w (List Int):=tupleKind (intKind prog w)
theorem items_int {ks:List Int}{vs:List Value}(h:ItemsAre (intKind prog w) ks vs):∀ v∈vs,∃ n t,v=.int n t:=by
 induction h with
 | nil=>intro v hv;cases hv
 | cons h1 _ ih=>
  intro v hv;rcases List.mem_cons.mp hv with rfl | hv
  .obtain⟨t,e⟩:=Value.isInt_shape h1;exact⟨_,t,e⟩
  .exact ih v hv
theorem cz {ks:List Int}{a:Addr}{Q:Bool->Shared->Prop}(hk:IsTupleKey (intKind prog w) s.heap ks a) (h:Q false s):wpAny (model prog w) A (ofAClassStatement 8 (.ref a)) Q E s:=by
 have hT:=hk.typeIs;obtain⟨o,items,n,ho,_,hd,hi⟩:=hk;unfold ofAClassStatement;refine zWb (wpAny_typeOf hT ?_);show wpAny _ _ (pure true >>= _) _ _ s;refine zWb (wpAny_pure ?_);simp only[Bool.not_true,Bool.false_eq_true,if_false];refine zWb (wpAny_seqItems ho hd ?_);dsimp only;refine zWb ?_;show wpAny _ _ (forIn items _ _) _ _ s;rw[<- Array.forIn_toList];refine wpAny_forIn_list _ (λ rest r s'=>r.1=none/\s'=s/\∀ v∈rest,∃ n t,v=.int n t) _ ?_ ?_ _ _ ⟨rfl,rfl,items_int hi⟩
 .rintro v rest r s' ⟨hr,rfl,hall⟩;obtain⟨m,t,rfl⟩:=hall v zMc;show wpAny _ _ (pure false >>= _) _ _ _;refine zWb (wpAny_pure ?_);simp only[Bool.false_eq_true,if_false];exact wpAny_pure ⟨rfl,rfl,λ u hu=>hall u (zMo _ hu)⟩
 .rintro⟨r1,r2⟩ s' ⟨hr,rfl,_⟩;simp only at hr;subst hr;exact wpAny_pure h
theorem Sj {ks:List Int}{a:Addr}{Q:Bool->Shared->Prop}(hk:IsTupleKey (intKind prog w) s.heap ks a) (h:Q true s):wpAny (model prog w) A (hashByValue 8 (.ref a)) Q E s:=by
 have hT:=hk.typeIs;obtain⟨o,items,n,ho,_,hd,hi⟩:=hk;unfold hashByValue;refine zWb (wpAny_specialOf hT F.slot_tuple_hash.lookup ?_);dsimp only;refine zWb (wpAny_seqItems ho hd ?_);refine zWb ?_;show wpAny _ _ (forIn items _ _) _ _ s;rw[<- Array.forIn_toList];refine wpAny_forIn_list _ (λ rest r s'=>r.1=none/\s'=s/\∀ v∈rest,∃ n t,v=.int n t) _ ?_ ?_ _ _ ⟨rfl,rfl,items_int hi⟩
 .rintro v rest r s' ⟨hr,rfl,hall⟩;obtain⟨m,t,rfl⟩:=hall v zMc;show wpAny _ _ (pure true >>= _) _ _ _;refine zWb (wpAny_pure ?_);simp only[Bool.not_true,Bool.false_eq_true,if_false];exact wpAny_pure ⟨rfl,rfl,λ u hu=>hall u (zMo _ hu)⟩
 .rintro⟨r1,r2⟩ s' ⟨hr,rfl,_⟩;simp only at hr;subst hr;exact wpAny_pure h
theorem Yx {ks:List Int}{b:Addr}{Q:Bool->Shared->Prop}(hk:IsTupleKey (intKind prog w) s.heap ks b) (l:List Value) (hl:∀ v∈l,∃ k c,v=.ref c/\IsTupleKey (intKind prog w) s.heap k c) (h:Q false s):
  wpAny (model prog w) A (searchCouldBeSeen (.ref b) l) Q E s:=by
 unfold searchCouldBeSeen;refine zWb ?_;refine wpAny_forIn_list _ (λ rest r s'=>r.1=none/\s'=s/\∀ v∈rest,∃ k c,v=.ref c/\IsTupleKey (intKind prog w) s.heap k c) _ ?_ ?_ _ _ ⟨rfl,rfl,hl⟩
 .rintro v rest r s' ⟨hr,rfl,hall⟩;obtain⟨k,c,rfl,hc⟩:=hall v zMc;have rest':∀ u∈rest,∃ k c,u=Value.ref c/\IsTupleKey (intKind prog w) s'.heap k c:=λ u hu=>hall u (zMo _ hu);dsimp only;by_cases e:(b == c||(carriedByValue (.ref b)&&carriedByValue (.ref c)))=true
  .rw[if_pos e];exact wpAny_pure ⟨rfl,rfl,rest'⟩
  .rw[if_neg e];refine zWb ((rk prog w).quiet hk ?_);simp only[Bool.not_true,Bool.false_eq_true,if_false];refine zWb ((rk prog w).quiet hc ?_);simp only[Bool.not_true,Bool.false_eq_true,if_false];refine zWb (cz hk ?_);simp only[Bool.false_eq_true,if_false];refine zWb (cz hc ?_);simp only[Bool.false_eq_true,if_false];exact wpAny_pure ⟨rfl,rfl,rest'⟩
 .rintro⟨r1,r2⟩ s' ⟨hr,rfl,_⟩;simp only at hr;subst hr;exact wpAny_pure h
structure rj (h:Heap) (es:Array (Int×Value)) (t:SetTable) (xs:List (List Int×Addr)):Prop where
 es:es.toList=xs.map λ e=>((rk prog w).hash e.1,Value.ref e.2)
 is:∀ e∈xs,IsTupleKey (intKind prog w) h e.1 e.2
 tab:Tab t (xs.map λ e=>(rk prog w).hash e.1)
 nB:xs.length<=t.mask
theorem rj.fits {h:Heap}{es:Array (Int×Value)}{t:SetTable}{xs:List (List Int×Addr)}(X:rj (prog:=prog) (w:=w) h es t xs):t.fits es.size=true:=by
 have hl:es.size=xs.length:=by have:=congrArg List.length X.es;simpa using this
 have h1:=X.tab.len;rw[List.length_map] at h1;have h2:=X.nB;unfold SetTable.fits SetTable.fill;rw[X.tab.sY,hl,h1];simp;omega
theorem rj.at {h:Heap}{es:Array (Int×Value)}{t:SetTable}{xs:List (List Int×Addr)}(X:rj (prog:=prog) (w:=w) h es t xs) {i:Nat}{e:List Int×Addr}(he:xs[i]?=some e):es[i]?=some ((rk prog w).hash e.1,Value.ref e.2):=by
 rw[<- Array.getElem?_toList,X.es,List.getElem?_map,he];rfl
theorem eU {a:Addr}{o:Obj}{es:Array (Int×Value)}{ep:Nat}{t:SetTable}{xs:List (List Int×Addr)}{key:List Int}{b:Addr}{Q:SetFound->Shared->Prop}
  (hu:A.units<cLine) (ho:s.heap.get? a=some o) (hd:o.data=.set es ep t) (X:rj (prog:=prog) (w:=w) s.heap es t xs) (hb:IsTupleKey (intKind prog w) s.heap key b)
  (h1:key∈xs.map (·.1)->Q (.there none) s) (h2:key∉xs.map (·.1)->∀ j,fH t ((rk prog w).hash key) j->Q (.free j false) s):
  ∀ (fuel k:Nat) (stand:Option Probe),stand.getD (t.probeStart ((rk prog w).hash key))=way t.mask ((rk prog w).hash key) k->(∀ m<k,∃ (i:Nat) (e:List Int×Addr),t.place[i]?=some (way t.mask ((rk prog w).hash key) m).j/\xs[i]?=some e/\e.1≠key)->(∃ K,k<=K/\K<k+fuel/\K<10*(t.mask+15)/\(way t.mask ((rk prog w).hash key) K).j∉t.place.toList/\∀ m<K,(way t.mask ((rk prog w).hash key) m).j∈t.place.toList)->
   wpAny (model prog w) A (setSearchFrom a (.ref b) ((rk prog w).hash key) true fuel stand) Q E s
 | 0,k,stand,_,_,⟨K,q1,q2,_⟩=>by omega
 | fuel+1,k,stand,hst,hpast,⟨K,q1,q2,q3,q4,q5⟩=>by
  have T:=X.tab;have hodd:t.gaveWay=false:=by
   unfold SetTable.gaveWay;rcases T.mask with e | e | e <;> rw[e] <;> rfl
  unfold setSearchFrom;refine zWb (wpAny_setState_of ho hd X.fits ?_);dsimp only;rw[hodd];simp only[Bool.false_eq_true,if_false];have hA:∀ (i:Nat) g,(xs.map λ e=>(rk prog w).hash e.1)[i]?=some g->((es[i]?).map (·.1)).getD 0=g:=λ i g hg=>by
   rw[List.getElem?_map] at hg;obtain⟨e,e1,e2⟩:=zOm hg;rw[X.at e1];exact e2
  obtain⟨k1,g1,g2,g3⟩:=b9 T (hashAt:=λ i=>((es[i]?).map (·.1)).getD 0) hA ((rk prog w).hash key) (10*turns t.mask) k ⟨K,q1,by unfold turns;omega,q4⟩;rw[hst];have look:∀ (i:Nat) g,(xs.map λ e=>(rk prog w).hash e.1)[i]?=some g->∃ e,xs[i]?=some e/\(rk prog w).hash e.1=g:=λ i g hg=>by
   rw[List.getElem?_map] at hg;obtain⟨e,e1,e2⟩:=zOm hg;exact⟨e,e1,e2⟩
  have hpast':∀ m<k1,∃ (i:Nat) (e:List Int×Addr),t.place[i]?=some (way t.mask ((rk prog w).hash key) m).j/\xs[i]?=some e/\e.1≠key:=λ m hm=>by
   rcases Nat.lt_or_ge m k with c | c
   .exact hpast m c
   .obtain⟨i,g,p1,p2,p3⟩:=g2 m c hm;obtain⟨e,e1,e2⟩:=look i g p2;exact⟨i,e,p1,e1,λ q=>p3 (by rw[<- e2,q])⟩
  rcases g3 with ⟨n1,n2⟩ | ⟨i,n1,n2,n3⟩
  .have n2':t.probe _ ((rk prog w).hash key) (way t.mask ((rk prog w).hash key) k)=_:=n2;simp only[SetTable.probe] at n2' ⊢
   erw [n2]
   dsimp only;refine wpAny_pure (h2 (λ hm=>?_) _ ⟨n1,k1,rfl,λ m hm=>?_⟩)
   .obtain⟨e,he,ek⟩:=List.mem_map.mp hm;obtain⟨i,hi⟩:=List.mem_iff_getElem?.mp he;have hh:(xs.map λ e=>(rk prog w).hash e.1)[i]?=some ((rk prog w).hash key):=by rw[List.getElem?_map,hi,<- ek];rfl
    have hil:i<t.place.size:=by rw[T.len];exact (List.getElem?_eq_some_iff.mp hh).1
    obtain⟨kk,w1,w2⟩:=T.oz i _ _ hh (Array.getElem?_eq_getElem hil);rcases Nat.lt_trichotomy kk k1 with c | c | c
    .obtain⟨i',e',p1,p2,p3⟩:=hpast' kk c;rw[w1] at p1;have:i=i':=by
      rw[<- below_at T.wJ (Array.getElem?_eq_getElem hil),<- below_at T.wJ p1]
     subst this;rw[hi] at p2;cases p2;exact p3 ek
    .subst c;rw[w1] at n1;exact n1 (by simp)
    .exact n1 (w2 k1 c)
   .obtain⟨i',e',p1,_⟩:=hpast' m hm;exact List.mem_of_getElem? (by rw[Array.getElem?_toList];exact p1)
  .simp only[SetTable.probe]
   erw [n3]
   dsimp only;obtain⟨e,e1,e2⟩:=look i _ n2;have hes:=X.at e1;have hey:=X.is e (List.mem_of_getElem? e1);have main:wpAny (model prog w) A (holding [Value.ref e.2] (eqBool (.ref e.2) (.ref b)) >>= λ equal=>setState a >>= λ x=>match x with
     | (es',_,t')=>if (true&&equal)=true then pure (SetFound.there none) else
      match t'.sameMemory t.moves t.mask with
      | some same=>
       have jp:=λ still=>match still with
        | none=>do
         rule "set.search.anew"
         setSearchFrom a (.ref b) ((rk prog w).hash key) true fuel none
        | some i'=>if equal=true then pure (SetFound.there (some i')) else setSearchFrom a (.ref b) ((rk prog w).hash key) true fuel (some (way t.mask ((rk prog w).hash key) (k1+1)))
       match if same=true then t'.slot (way t.mask ((rk prog w).hash key) k1).j else Slot.empty with
       | .live i'=>match es'[i']? with
        | some (_,y')=>do
         let r <- isSame y' (.ref e.2)
         let still <- pure (if r=true then some i' else none)
         jp still
        | none=>do
         let still <- pure none
         jp still
       | _=>do
        let still <- pure none
        jp still
      | _=>unsupported "set.changed-during-lookup:is-the-new-block-at-the-old-address") Q E s:=by
    refine zWb (wpAny_holding ((rk prog w).eqBool hu hey hb ?_));refine zWb (wpAny_setState_of ho hd X.fits ?_);dsimp only;by_cases hk:e.1=key
    .rw[decide_eq_true hk];simp only[Bool.and_self,if_true];exact wpAny_pure (h1 (List.mem_map.mpr ⟨e,List.mem_of_getElem? e1,hk⟩))
    .rw[decide_eq_false hk];simp only[Bool.and_false,Bool.false_eq_true,if_false];have sm:t.sameMemory t.moves t.mask=some true:=by unfold SetTable.sameMemory;simp
     rw[sm];dsimp only;rw[if_pos rfl,T.live n1];dsimp only;rw[hes];dsimp only;refine zWb (wpAny_isSame_ref_self ?_);refine zWb (wpAny_pure ?_);rw[if_pos rfl];dsimp only;have hKk:k1<K:=by
      rcases Nat.lt_trichotomy K k1 with c | c | c
      .obtain⟨i',e',p1,_⟩:=hpast' K c;exact absurd (List.mem_of_getElem? (by rw[Array.getElem?_toList];exact p1)) q4
      .subst c;exact absurd (List.mem_of_getElem? (by rw[Array.getElem?_toList];exact n1)) q4
      .exact c
     refine eU hu ho hd X hb h1 h2 fuel (k1+1) _ rfl (λ m hm=>?_) ⟨K,by omega,by omega,q3,q4,q5⟩;rcases Nat.lt_or_ge m k1 with c | c
     .exact hpast' m c
     .have:m=k1:=by omega
      subst this;exact⟨i,e,n1,e1,hk⟩
   rw[hes];by_cases hl:t.led=true
   .rw[hl];simp only[Bool.not_true,Bool.false_eq_true,if_false];exact main
   .have hl':t.led=false:=by simpa using hl
    rw[hl'];simp only[Bool.not_false,if_true];refine zWb (Yx hb _ (λ v hv=>?_) ?_)
    .obtain⟨p,hp,rfl⟩:=List.mem_map.mp hv;rw[Array.toList_filter,List.mem_filter,X.es] at hp;obtain⟨⟨e',he',rfl⟩,_⟩:=(And.intro (List.mem_map.mp hp.1) hp.2)
     exact⟨e'.1,e'.2,rfl,X.is e' he'⟩
    .simp only[Bool.false_eq_true,if_false];exact main
end
end ST
namespace ST
open PySem PySem.SetTable
section
variable {prog:Program}{w:World}{A:Around}{E:Value->Shared->Prop}{s:Shared}
structure vO (prog:Program) (w:World) (h:Heap) (a:Addr) (xs:List (List Int×Addr)) (led:Bool):Prop where
 ex:∃ es ep t,h.get? a=some { cls:=.type "set",dict:=none,data:=.set es ep t }/\rj (prog:=prog) (w:=w) h es t xs/\t.led=led/\t.plain=true/\xs.length*5<t.mask*3
 nd:(xs.map (·.1)).Nodup
theorem jf {h h':Heap}{ks:List Int}{b a:Addr}{es:Array (Int×Value)}{ep:Nat}{t:SetTable}{c:Value}{d:Option Addr}{sl:Array (Option Value)}(x:IsTupleKey (intKind prog w) h ks b) (ho:h.get? a=some { cls:=c,dict:=d,data:=.set es ep t,slots:=sl }) (hs:Heap.SameBut a h h'):IsTupleKey (intKind prog w) h' ks b:=by
 obtain⟨o',items,n,ho',hc,hd',hi⟩:=x;have hne:b≠a:=by
  rintro rfl;obtain rfl:o'=_:=Option.some.inj (ho'.symm.trans ho);cases hd'
 exact⟨o',items,n,(hs.2 b hne).trans ho',hc,hd',hi⟩
theorem lq {h:Heap}{a:Addr}{es es':Array (Int×Value)}{ep:Nat}{t t':SetTable}(ho:h.get? a=some { cls:=.type "set",dict:=none,data:=.set es ep t }):(h.update a (Obj.putSet es' t')).get? a=some { cls:=.type "set",dict:=none,data:=.set es' (ep+1) t' }:=by
 have e:Obj.putSet es' t' { cls:=.type "set",dict:=none,data:=.set es ep t }={ cls:=.type "set",dict:=none,data:=.set es' (ep+1) t' }:=putSet_of es' t' rfl;have:=Heap.get?_update_self (Obj.putSet es' t') ho (by rw[e];rfl);rw[e] at this;exact this
theorem ij {α β:Type}(l:List α) (f:α->β) (d:β):∀ (order:List Nat),(∀ k∈order,k<l.length)->order.map (λ k=>(l.map f).getD k d)=(order.filterMap λ k=>l[k]?).map f
 | [],_=>rfl
 | k::order,h=>by
  have hk:=h k zMc;have ih:=ij l f d order λ j hj=>h j (zMo _ hj);rw[List.map_cons,List.filterMap_cons,List.getElem?_eq_getElem hk];dsimp only;rw[List.map_cons,ih];congr 1;simp[hk]
theorem X7 {a:Addr}{es:Array (Int×Value)}{ep:Nat}{t:SetTable}{xs:List (List Int×Addr)}{led:Bool}{wanted M:Nat}{Q:Unit->Shared->Prop}
  (ho:s.heap.get? a=some { cls:=.type "set",dict:=none,data:=.set es ep t }) (X:rj (prog:=prog) (w:=w) s.heap es t xs) (hled:t.led=led) (hpl:t.plain=true) (hM:vu M) (hw:sizeAbove wanted=M+1) (hfew:xs.length*5<M*3) (hnd:(xs.map (·.1)).Nodup)
  (h:∀ h' xs',Heap.SameBut a s.heap h'->vO prog w h' a xs' led->xs'.Perm xs->Q () { s with heap:=h' }):wpAny (model prog w) A (setRelay a wanted) Q E s:=by
 have hlen:es.size=xs.length:=by have:=congrArg List.length X.es;simpa using this
 have hhs:(es.map (·.1)).toList=xs.map λ e=>(rk prog w).hash e.1:=by rw[Array.toList_map,X.es,List.map_map];rfl
 have hsz:(es.map (·.1)).size=xs.length:=by rw[Array.size_map,hlen]
 obtain⟨t',order,h1,h2,h3,h4,h5,h6,h7⟩:=cQ hM t.finger (t.movedTo M) t.led t.plain (es.map (·.1)) (by rw[hsz];omega);rw[hsz] at h6;have hlt:∀ k∈order.toList,k<xs.length:=λ k hk=>by simpa using h6.mem_iff.mp hk
 unfold setRelay;refine zWb (wpAny_setState_of ho rfl X.fits ?_);dsimp only;rw[if_neg (by rw[hw];rcases hM with e | e | e <;> rw[e] <;> decide)];have hr:t.relaid (es.map (·.1)) wanted=some (t',order):=by
  unfold SetTable.relaid;rw[hw,Nat.add_sub_cancel];exact h1
 rw[hr];have hes':(order.filterMap (es[·]?)).toList=(order.toList.filterMap λ k=>xs[k]?).map λ e=>((rk prog w).hash e.1,Value.ref e.2):=by
  rw[Array.toList_filterMap,List.map_filterMap];congr 1;funext k;rw[<- Array.getElem?_toList,X.es,List.getElem?_map]
 have hperm:(order.toList.filterMap λ k=>xs[k]?).Perm xs:=(h6.filterMap _).trans (by rw[List.filterMap_getElem?_range_length]);have hsz':(order.filterMap (es[·]?)).size=es.size:=by
  rw[<- Array.length_toList,hes',List.length_map,hperm.length_eq,hlen]
 refine zWb (m:=_) ?_;show wpAny _ _ (do
  let some (t,order):=some (t',order) | unsupported "internal:set-table-without-room"
  let es':=order.filterMap (es[·]?)
  if es'.size != es.size then unsupported "internal:set-table-lost-an-element"
  pure (es',t)) _ _ _
 dsimp only;rw[if_neg (by rw[hsz'];simp)];refine wpAny_pure ?_;have hsl:(order.filterMap (es[·]?)).size<=sizeLine:=by
  rw[hsz',hlen];have:sizeLine=16777216:=rfl;rcases hM with e | e | e <;> subst e <;> omega
 refine wpAny_storeSet_of ho rfl ?_ hsl;have sb:=Heap.SameBut.update s.heap a (Obj.putSet (order.filterMap (es[·]?)) t');refine h _ _ sb ⟨⟨_,ep+1,t',lq ho,⟨hes',λ e he=>jf (X.is e (hperm.mem_iff.mp he)) ho sb,?_,?_⟩,by rw[h4];exact hled,by rw[h5];exact hpl,?_⟩,(hperm.map _).nodup_iff.mpr hnd⟩ hperm
 .rw[<- ij xs (λ e=>(rk prog w).hash e.1) 0 order.toList hlt,<- hhs];exact h7
 .rw[hperm.length_eq,h2];omega
 .rw[hperm.length_eq,h2];exact hfew
theorem eR (n:Nat) (M:Nat) (hM:vu M) (h1:n*5<M*3) (h2:M*3<=(n+1)*5) (hn:n<70):∃ M',vu M'/\sizeAbove (grown (n+1))=M' + 1/\(n+1)*5<M'*3:=by
 rcases hM with e | e | e <;> subst e
 .have:n=4:=by omega
  subst this;exact⟨31,.inr (.inl rfl),by decide +kernel,by omega⟩
 .have:n=18:=by omega
  subst this;exact⟨127,.inr (.inr rfl),by decide +kernel,by omega⟩
 .omega
theorem Qs {a:Addr}{xs:List (List Int×Addr)}{key:List Int}{b:Addr}{led:Bool}{Q:Bool->Shared->Prop}(hu:A.units<cLine) (S:vO prog w s.heap a xs led) (hb:IsTupleKey (intKind prog w) s.heap key b) (hn:xs.length<70)
  (h:∀ h' xs' r,Heap.SameBut a s.heap h'->vO prog w h' a xs' led->(key∈xs.map (·.1)/\xs'=xs\/key∉xs.map (·.1)/\xs'.Perm (xs++[(key,b)]))->Q r { s with heap:=h' }):
  wpAny (model prog w) A (setAddHashed a (.ref b) ((rk prog w).hash key)) Q E s:=by
 obtain⟨⟨es,ep,t,ho,X,hled,hpl,hfew⟩,hnd⟩:=S;have hlen:es.size=xs.length:=by have:=congrArg List.length X.es;simpa using this
 unfold setAddHashed setAddHashedIn;refine wpAny_holding (zWb (wpAny_setState_of ho rfl X.fits ?_));dsimp only;rw[if_neg (by simp[byScan,Value.scannable])];obtain⟨K,k1,k2,k3⟩:=X.tab.first (by rw[List.length_map];exact X.nB) ((rk prog w).hash key);have hmk:t.mask<=127:=by rcases X.tab.mask with e | e | e <;> omega
 refine zWb ?_;unfold setSearch;refine eU (key:=key) (b:=b) hu ho rfl X hb (λ hm=>?_) (λ hm j F=>?_) 100000 0 none rfl (λ m hm=>by omega) ⟨K,by omega,by omega,k1,k2,k3⟩
 .dsimp only;refine wpAny_pure ?_;have:=h s.heap xs false ⟨rfl,λ _ _=>rfl⟩ ⟨⟨es,ep,t,ho,X,hled,hpl,hfew⟩,hnd⟩ (.inl ⟨hm,rfl⟩);exact this
 .dsimp only;refine zWb (wpAny_setState_of ho rfl X.fits ?_);dsimp only;obtain⟨p1,p2,p3⟩:=X.tab.put F;rw[List.length_map] at p1;have hpt:(t.put j).1.plain=true:=by rw[p2];exact hpl
  have hmt:(t.put j).1.mask=t.mask:=by rw[p2]
  have hlt:(t.put j).1.led=led:=by rw[p2];exact hled
  generalize hT:(t.put j)=P at *;obtain⟨t1,p⟩:=P;dsimp only at *;rw[hpt];simp only[if_true];refine zWb (Sj hb ?_);simp only[if_true]
  let xs1:=xs.take p++(key,b)::xs.drop p
  have hperm:xs1.Perm (xs++[(key,b)]):=by
   have e:xs.take p++xs.drop p=xs:=List.take_append_drop p xs;have:xs1.Perm ((key,b)::(xs.take p++xs.drop p)):=List.perm_middle;rw[e] at this;exact this.trans (List.perm_append_singleton _ _).symm
  have hl1:xs1.length=xs.length+1:=by rw[hperm.length_eq];simp
  have hes1:(insertAt es p ((rk prog w).hash key,Value.ref b)).toList=xs1.map λ e=>((rk prog w).hash e.1,Value.ref e.2):=by
   rw[toList_insertAt,X.es];simp[xs1,List.map_take,List.map_drop]
  have hsz1:(insertAt es p ((rk prog w).hash key,Value.ref b)).size=xs.length+1:=by rw[<- Array.length_toList,hes1,List.length_map,hl1]
  have hsl:(insertAt es p ((rk prog w).hash key,Value.ref b)).size<=sizeLine:=by
   rw[hsz1];have:sizeLine=16777216:=rfl;omega
  refine zWb (wpAny_storeSet_of ho rfl ?_ hsl);have sb:=Heap.SameBut.update s.heap a (Obj.putSet (insertAt es p ((rk prog w).hash key,Value.ref b)) t1);have ho1:=lq (es':=insertAt es p ((rk prog w).hash key,Value.ref b)) (t':=t1) ho;have hm7:7<=t.mask:=by rcases X.tab.mask with e | e | e <;> omega
  have X1:rj (prog:=prog) (w:=w) (s.heap.update a (Obj.putSet (insertAt es p ((rk prog w).hash key,Value.ref b)) t1)) (insertAt es p ((rk prog w).hash key,Value.ref b)) t1 xs1:=by
   refine⟨hes1,λ e he=>?_,?_,by rw[hl1,hmt];omega⟩
   .rcases List.mem_append.mp (hperm.mem_iff.mp he) with q | q
    .exact jf (X.is e q) ho sb
    .cases List.mem_singleton.mp q;exact jf hb ho sb
   .have:xs1.map (λ e=>(rk prog w).hash e.1)=(xs.map λ e=>(rk prog w).hash e.1).take p++(rk prog w).hash key::(xs.map λ e=>(rk prog w).hash e.1).drop p:=by simp[xs1,List.map_take,List.map_drop]
    rw[this];exact p3
  have hnd1:(xs1.map (·.1)).Nodup:=by
   refine (hperm.map _).nodup_iff.mpr ?_;rw[List.map_append,List.nodup_append];refine⟨hnd,by simp,λ x hx y hy=>?_⟩;simp at hy;subst hy;exact λ e=>hm (e▸hx)
  by_cases hf:t1.tooFull=true
  .rw[hf];simp only[Bool.not_false,Bool.and_self,if_true];have hfill:t1.fill=xs.length+1:=by
    unfold SetTable.fill;rw[p3.sY,p3.len];simp;omega
   have hfull:t.mask*3<=(xs.length+1)*5:=by
    have:=hf;unfold SetTable.tooFull at this;rw[hfill,hmt] at this;simpa using this
   obtain⟨M',g1,g2,g3⟩:=eR xs.length t.mask X.tab.mask hfew hfull hn;rw[hlen];refine zWb (X7 (led:=led) ho1 X1 hlt hpt g1 g2 (by rw[hl1];exact g3) hnd1 λ h' xs' sb' S' pm=>?_);refine wpAny_pure ?_;exact h h' xs' true (sb.trans sb') S' (.inr ⟨hm,pm.trans hperm⟩)
  .have hf':t1.tooFull=false:=by simpa using hf
   rw[hf'];simp only[Bool.not_false,Bool.and_false,Bool.false_eq_true,if_false];refine wpAny_pure ?_;have hfill:t1.fill=xs.length+1:=by
    unfold SetTable.fill;rw[p3.sY,p3.len];simp;omega
   have hfull:(xs.length+1)*5<t.mask*3:=by
    have:=hf';unfold SetTable.tooFull at this;rw[hfill,hmt] at this;simpa using this
   exact h _ xs1 true sb ⟨⟨_,ep+1,t1,ho1,X1,hlt,hpt,by rw[hl1,hmt];exact hfull⟩,hnd1⟩ (.inr ⟨hm,hperm⟩)
end
end ST
namespace ST
open PySem PySem.SetTable
noncomputable def vA (w:World):Bool:=!w.params.followText "set-order"
noncomputable def xg (w:World):Obj:={ cls:=.type "set",dict:=none,data:=.set #[] 0 (.fresh 0 0 (vA w)) }
section
variable {prog:Program}{w:World}{A:Around}{E:Value->Shared->Prop}{s:Shared}
set_option maxHeartbeats 3200000 in
theorem aB (a:Value) {Q:Value->Shared->Prop}(h:Q (.ref s.heap.objs.size) { s with heap:=s.heap.push (xg w) }):
  codeAny (model prog w) A (.call (.builtin "set.__new__") ⟨[.type "set",a],[]⟩) (wants Q E) s:=by
 refine codeAny_of_tree ?_;show wpAny _ A.in1 (checkBuiltinCall "set.__new__" ⟨[.type "set",a],[]⟩ >>= λ _=>again (.builtin "set.__new__" ⟨[.type "set",a],[]⟩)) _ _ s;refine zWb (wpAny_of_eq (F.newCall_set_1 a) (wpAny_pure ⟨plainId_quiet F.plain_set_new _,codeAny_builtin F.entry_set_new ?_⟩));rw[Around.under_plainId F.plain_set_new _];unfold Builtin.«set.__new__» Builtin.Frozenset.newClass newSet setsByText;have sub:=sub_set_self;obtain⟨hp,g,d,tk,os⟩:=s;dsimp only
 wp_walk
 refine wpAny_askSetting (wpAny_pure ?_);dsimp only;simp only[newObj];exact zWb (wpAny_alloc (wpAny_pure (wpAny_pure h)))
theorem Xh {h:Heap}{a:Addr}(ho:h.get? a=some (xg w)):vO prog w h a [] (vA w):=
 ⟨⟨#[],0,_,ho,⟨rfl,λ e he=>(by cases he),⟨.inl rfl,rfl,rfl,.nil,λ j hj=>(by cases hj),λ i g j hg=>(by cases hg)⟩,by simp⟩,rfl,rfl,by show 0*5<7*3;omega⟩,.nil⟩
end
end ST
namespace ST
open PySem PySem.SetTable PyProof.Rows
structure Up (its:Array Value) (rows:List (List Int)) (i:Nat) (xs:List (List Int×Addr)):Prop where
 own:∀ e∈xs,∃ j,j<i/\its[j]?=some (.ref e.2)/\rows[j]?=some e.1
 all:∀ (j:Nat) r,j<i->rows[j]?=some r->r∈xs.map (·.1)
theorem Up.len {its:Array Value}{rows:List (List Int)}{i:Nat}{xs:List (List Int×Addr)}(U:Up its rows i xs) (nd:(xs.map (·.1)).Nodup):xs.length<=i:=by
 have:∀ x∈xs.map (·.1),x∈(List.range i).map λ j=>rows.getD j []:=λ x hx=>by
  obtain⟨e,he,rfl⟩:=List.mem_map.mp hx;obtain⟨j,h1,_,h3⟩:=U.own e he;refine List.mem_map.mpr ⟨j,List.mem_range.mpr h1,?_⟩;rw[List.getD_eq_getElem?_getD,h3];rfl
 have key:∀ (l m:List (List Int)),l.Nodup->(∀ x∈l,x∈m)->l.length<=m.length:=by
  intro l
  induction l with
  | nil=>intro m _ _;exact Nat.zero_le _
  | cons x l ih=>
   intro m hn hs;have h1:=List.nodup_cons.mp hn;have hx:=hs x zMc;have:=ih (m.erase x) h1.2 λ z hz=>(List.mem_erase_of_ne (λ e:z=x=>h1.1 (by rw[<- e];exact hz))).mpr (hs z (zMo _ hz));rw[List.length_erase_of_mem hx] at this;have:=List.length_pos_of_mem hx;simp only[List.length_cons];omega
 have:=key _ _ nd this;simpa using this
theorem Up.step {its:Array Value}{rows:List (List Int)}{i:Nat}{xs xs':List (List Int×Addr)}{key:List Int}{b:Addr}(U:Up its rows i xs) (hi:its[i]?=some (.ref b)) (hr:rows[i]?=some key)
  (h:key∈xs.map (·.1)/\xs'=xs\/key∉xs.map (·.1)/\xs'.Perm (xs++[(key,b)])):Up its rows (i+1) xs':=by
 rcases h with ⟨hm,rfl⟩ | ⟨_,hp⟩
 .refine⟨λ e he=>?_,λ j r hj hrj=>?_⟩
  .obtain⟨j,h1,h2⟩:=U.own e he;exact⟨j,by omega,h2⟩
  .rcases Nat.lt_or_ge j i with q | q
   .exact U.all j r q hrj
   .have:j=i:=by omega
    subst this;rw[hr] at hrj;cases hrj;exact hm
 .refine⟨λ e he=>?_,λ j r hj hrj=>?_⟩
  .rcases List.mem_append.mp (hp.mem_iff.mp he) with q | q
   .obtain⟨j,h1,h2⟩:=U.own e q;exact⟨j,by omega,h2⟩
   .cases List.mem_singleton.mp q;exact⟨i,by omega,hi,hr⟩
  .have hp':=hp.map (·.1);rw[hp'.mem_iff,List.map_append];rcases Nat.lt_or_ge j i with q | q
   .exact List.mem_append_left _ (U.all j r q hrj)
   .have:j=i:=by omega
    subst this;rw[hr] at hrj;cases hrj;exact List.mem_append_right _ zMc
section
variable {prog:Program}{w:World}{A:Around}{R:Result->Shared->Prop}{I:Addr}{fp wr:List Addr}{G:Array GenState->Array GenState->Prop}{n:Nat}{P:Nat->Value->Prop}{St:Nat->Shared->Prop}
def qf (prog:Program) (w:World) (h:Heap) (its:Array Value) (rows:List (List Int)):Prop:=∀ (i:Nat) v,its[i]?=some v->∃ b r,v=.ref b/\rows[i]?=some r/\IsTupleKey (intKind prog w) h r b
theorem qf.at {h h':Heap}{its:Array Value}{rows:List (List Int)}(T:qf prog w h its rows) (k:∀ (i:Nat) b,its[i]?=some (.ref b)->∀ o,h.get? b=some o->h'.get? b=some o):qf prog w h' its rows:=λ i v hv=>by
 obtain⟨b,r,rfl,h1,o,items,m,h2,h3⟩:=T i v hv;exact⟨b,r,rfl,h1,o,items,m,k i b hv o h2,h3⟩
theorem Ta (W:WalksS prog w A.in1 I fp wr G n (λ i v=>P i v) St) (Sa:Addr) (hSf:Sa∉fp) {its:Array Value}{rows:List (List Int)}(hP:∀ i v,P i v->its[i]?=some v) (hn:n<70) (hu:A.units+1<cLine) (led:Bool)
  (hoff:∀ (i:Nat) b,its[i]?=some (.ref b)->b∉Sa::wr):∀ (k i:Nat) (s:Shared) (xs:List (List Int×Addr)),n-i=k->i<=n->St i s->vO prog w s.heap Sa xs led->qf prog w s.heap its rows->Up its rows i xs->
   (∀ s' xs',Moved (Sa::wr) G s s'->vO prog w s'.heap Sa xs' led->Up its rows n xs'->R (.ok (.ret .none)) s')->
   codeAny (model prog w) A (.builtin "set.update.loop" ⟨[.ref Sa,.ref I],[]⟩) R s:=by
 have hSw:Sa∉wr:=λ z=>hSf (W.sub _ z);have more:∀ b∈wr,b∈Sa::wr:=λ b hb=>zMo _ hb;have keepS:∀ {s s':Shared}{xs:List (List Int×Addr)}{wr':List Addr},Sa∉wr'->(∀ e∈xs,e.2∉wr')->Moved wr' G s s'->vO prog w s.heap Sa xs led->vO prog w s'.heap Sa xs led:=λ{s s' xs wr'} h1 h2 hm ⟨⟨es,ep,t,ho,X,r1,r2,r3⟩,nd⟩=>
  ⟨⟨es,ep,t,hm.heap Sa _ h1 ho,⟨X.es,λ e he=>by
   obtain⟨o,items,m,g1,g2⟩:=X.is e he;exact⟨o,items,m,hm.heap _ _ (h2 e he) g1,g2⟩,X.tab,X.nB⟩,r1,r2,r3⟩,nd⟩
 intro k
 induction k with
 | zero=>
  intro i s xs hk hi hst hS hT hU hR;have e:i=n:=by omega
  subst e;refine codeAny_builtin F.entry_set_update_loop ?_;rw[Around.under_plainId F.plain_set_update_loop _];show wpAny _ A.in1 (pyNext (.ref I) >>= _) _ _ s;refine zWb (W.done s _ _ hst λ s' hm=>?_);refine wpAny_pure (hR s' xs (hm.mono more) (keepS hSw (λ e he=>?_) hm hS) hU);obtain⟨j,_,h2,_⟩:=hU.own e he;exact λ z=>hoff j e.2 h2 (more _ z)
 | succ k ih=>
  intro i s xs hk hi hst hS hT hU hR;have hlt:i<n:=by omega
  refine codeAny_builtin F.entry_set_update_loop ?_;rw[Around.under_plainId F.plain_set_update_loop _];show wpAny _ A.in1 (pyNext (.ref I) >>= _) _ _ s;refine zWb (W.item i s _ _ hlt hst λ v s1 hPv hst1 hm=>?_);have hv:=hP i v hPv;have T1:qf prog w s1.heap its rows:=hT.at λ j b hj o e=>hm.heap b o (λ z=>hoff j b hj (more _ z)) e;obtain⟨b,r,rfl,hr,hb⟩:=T1 i v hv;have S1:vO prog w s1.heap Sa xs led:=keepS hSw (λ e he=>by
   obtain⟨j,_,h2,_⟩:=hU.own e he;exact λ z=>hoff j e.2 h2 (more _ z)) hm hS
  have hl:xs.length<70:=by have:=hU.len hS.nd;omega
  show wpAny _ A.in1 (holding [Value.ref b] (setAdd Sa (.ref b)) >>= _) _ _ s1;refine zWb (wpAny_holding ?_);unfold setAdd;refine wpAny_holding (zWb ((rk prog w).pyHash (k:=r) (a:=b) (A:=A.in1) hu hb ?_));refine Qs (s:={ s1 with toks:=s1.toks+(rk prog w).draws r }) (A:=A.in1) hu S1 hb hl λ h' xs' rr sb S' hx=>?_;have fr:=W.frame (i+1) s1 h' (s1.toks+(rk prog w).draws r) hst1 (Nat.le_add_right _ _) λ c hc o e=>(sb.2 c (λ z:c=Sa=>hSf (z▸hc))).trans e;refine wpAny_pure ⟨plainId_quiet F.plain_set_update_loop _,ih (i+1) _ xs' (by omega) hlt fr S' (T1.at λ j c hj o e=>?_) (hU.step hv hr hx) λ s2 xs2 hm2 S2 U2=>?_⟩
  .exact (sb.2 c (λ z=>hoff j c hj (z▸zMc))).trans e
  .refine hR s2 xs2 (Moved.trans W.gtrans ((hm.mono more).then_heap (Nat.le_add_right _ _) λ c o hc e=>?_) hm2) S2 U2;exact (sb.2 c (λ z=>hc (z▸zMc))).trans e
end
end ST
namespace ST
open PySem PySem.SetTable PyProof.Rows
section
variable {prog:Program}{w:World}{A:Around}{E:Value->Shared->Prop}{s:Shared}
set_option maxRecDepth 100000 in
set_option maxHeartbeats 6400000 in
theorem RO {l:Addr}{its:Array Value}{rows:List (List Int)}{Q:Value->Shared->Prop}(hh:A.handled=none) (hu:A.units+64<cLine) (hl:s.heap.IsList l its) (hT:qf prog w s.heap its rows) (hn:its.size<70)
  (h:∀ (h':Heap) (tk:Nat) xs,vO prog w h' s.heap.objs.size xs (vA w)->Up its rows its.size xs->(∀ b o,b<s.heap.objs.size->s.heap.get? b=some o->h'.get? b=some o)->Q (.ref s.heap.objs.size) { s with heap:=h',toks:=tk }):
  wpAny (model prog w) A (call (.type "set") [.ref l]) Q E s:=by
 obtain⟨c,tl,hmro⟩:=F.called_set.mro;have made:=F.called_set.made;have subm:=F.called_set.sub;refine wpAny_call (codeAny_of_tree ?_);show wpAny _ _ (callAny (.type "set") _) _ _ _;refine wpAny_pure ⟨Code.quiet_builtin _ (by decide +kernel),codeAny_builtin F.entry_type_call ?_⟩;rw[Around.under_plain (weight_type_call_type "set" [.ref l] []) rfl];have nt:=F.called_set.notType;have cc:=F.called_set.canCreate;have tc:=F.typeCall_set_1 (.ref l)
 repeat (any_goals (first | assumption | wp_step))
 refine codeAny_mono (aB (.ref l) (E:=E) (Q:=λ obj s₁=>obj=.ref s.heap.objs.size/\s₁={ s with heap:=s.heap.push (xg w) }) ⟨rfl,rfl⟩) λ r s₁ hr=>?_;cases r with
 | error e=>exact hr
 | ok fl=>
  cases fl with
  | ret obj=>
   obtain⟨rfl,rfl⟩:=hr;have hS:(s.heap.push (xg w)).get? s.heap.objs.size=some (xg w):=Heap.get?_push_size _ rfl;have hTy:Shared.TypeIs { s with heap:=s.heap.push (xg w) } (.ref s.heap.objs.size) "set":=⟨_,hS,rfl⟩
   have li:=F.called_set.init.lookup;have bi:=F.called_set.init.bind (.ref s.heap.objs.size)
   repeat (any_goals (first | assumption | wp_step))
   let s1:Shared:={ s with heap:=s.heap.push (xg w) }
   refine codeAny_mono (codeAny_call_builtin (R:=wants (λ r s₂=>r=.none/\∃ h' tk xs,s₂={ s with heap:=h',toks:=tk }/\vO prog w h' s.heap.objs.size xs (vA w)/\Up its rows its.size xs/\
     ∀ b o,b<s.heap.objs.size->s.heap.get? b=some o->h'.get? b=some o) E) F.called_set.init.plain F.entry_set_init (check_set_init_1 hTy ?_)) λ r₂ s₂ hr₂=>?_
   .obtain⟨⟨ocls,odict,odata,oslots⟩,hol,hcl,nl,hdl⟩:=id hl;simp only at hcl hdl;subst hcl hdl;have hol1:(s.heap.push (xg w)).get? l=some { cls:=.type "list",dict:=odict,data:=.seq its nl,slots:=oslots }:=zHp _ hol;have sls:=F.sub_list_set;have slf:=F.sub_list_frozenset;have nd:(Value.type "list" == Value.type "dict")=false:=by decide
    have hl1:(s.heap.push (xg w)).IsList l its:=⟨_,hol1,rfl,nl,rfl⟩
    unfold Builtin.«set.__init__» noKeywords Builtin.Frozenset.updateFrom;generalize hPI:pyIter=PI;unfold xg at *
    wp_walk
    subst hPI;refine wpAny_pyIter_list hl1 (zWb (wpAny_runValue ?_));have hlS:l<s.heap.objs.size:=Heap.lt_size hol;have hsz:(s.heap.push (xg w)).objs.size=s.heap.objs.size+1:=Heap.size_push _ _;have hneI:l≠(s.heap.push (xg w)).objs.size:=by rw[hsz];exact Nat.ne_of_lt (Nat.lt_succ_of_lt hlS)
    have szne:s.heap.objs.size≠(s.heap.push (xg w)).objs.size:=by rw[hsz];exact Nat.ne_of_lt (Nat.lt_succ_self _)
    have low:∀ b:Addr,b<s.heap.objs.size->b≠(s.heap.push (xg w)).objs.size:=λ b hb=>by rw[hsz];exact Nat.ne_of_lt (Nat.lt_succ_of_lt hb)
    have tin:∀ (i:Nat) b,its[i]?=some (.ref b)->b<s.heap.objs.size:=λ i b hb=>by
     obtain⟨b',r,e,_,o,_,_,ho,_⟩:=hT i _ hb;cases e;exact Heap.lt_size ho
    refine Ta (A:=A.in1.in1) (P:=λ i v=>its[i]?=some v) ((Walks.list (A:=A.in1.in1.in1) (by simp[hh]) _ l hneI its).toS) s.heap.objs.size ?_ (its:=its) (rows:=rows) (λ _ _ q=>q) hn (show A.units+1+1+1<cLine by omega) (vA w) ?_ its.size 0 _ [] (by omega) (Nat.zero_le _)
     ⟨⟨_,Heap.get?_push_size _ rfl,rfl,rfl⟩,hl1.push _⟩ (Xh (w:=w) (zHp _ hS)) (hT.at λ i b _ o e=>zHp _ (zHp _ e)) ⟨λ e he=>(by cases he),λ j r hj=>(by omega)⟩ ?_
    .intro hm;rcases List.mem_cons.mp hm with q | q
     .exact szne q
     .exact Nat.ne_of_gt hlS (List.mem_singleton.mp q)
    .intro i b hb hm;have hlt:=tin i b hb;rcases List.mem_cons.mp hm with q | q
     .exact Nat.ne_of_lt hlt q
     .exact low b hlt (List.mem_singleton.mp q)
    .intro s' xs' hm S' U';obtain⟨h',g',d',tk',os'⟩:=s';obtain rfl:g'=s.gens:=hm.gens;obtain rfl:d'=s.drawn:=hm.drawn;obtain rfl:os'=s.os:=hm.os;refine wpAny_pure (wpAny_pure ⟨rfl,h',tk',xs',rfl,S',U',λ b o hb e=>?_⟩);refine hm.heap b o (λ q=>?_) (zHp _ (zHp _ e));rcases List.mem_cons.mp q with q | q
     .exact Nat.ne_of_lt hb q
     .exact low b hb (List.mem_singleton.mp q)
   .cases r₂ with
    | error e=>exact hr₂
    | ok fl₂=>
     cases fl₂ with
     | ret r=>
      obtain⟨rfl,h',tk,xs,rfl,g1,g2,g3⟩:=hr₂
      repeat (any_goals (first | assumption | wp_step))
      exact h h' tk xs g1 g2 g3
     | _=>exact hr₂.elim
  | _=>exact hr.elim
end
end ST
namespace ST
open PySem PySem.SetTable
section facts
set_option maxRecDepth 100000
theorem dY:Manifest.owners.lookup (String.ofList ['r','o','t','a','r','e','t','i','_','t','e','s'].reverse)=some Manifest.sig_set_iterator:=by kernel_rfl
theorem qB:Slot "set_iterator" "__next__" "set_iterator.__next__":=
 .of (owner:="set_iterator") (n:="__next__") (by rw[typeLookup_type,builtinLookup_eq_fast];kernel_rfl) (by decide +kernel) (by decide +kernel) (by decide +kernel) (by first | exact .inl (by decide +kernel) | exact .inr (by decide +kernel)) (by rw[isSubtype_type];kernel_rfl)
theorem bQ:entryFor table "set_iterator.__next__"=some Builtin.«set_iterator.__next__»:=entryFor_of_tree (by kernel_rfl)
theorem aX (a:Value):argsOk "set_iterator.__next__" ⟨[a],[]⟩:=by
 unfold argsOk;rw[signature?_of (id:="set_iterator.__next__") (n:=['_','_','t','x','e','n','_','_']) (o:=['r','o','t','a','r','e','t','i','_','t','e','s']) (by kernel_rfl) dY]
 kernel_rfl
theorem Rg:entryFor table "set.__iter__"=some Builtin.«frozenset.__iter__»:=entryFor_alias (id':="frozenset.__iter__") (by kernel_rfl) rfl (by decide +kernel) (by kernel_rfl)
theorem eQ:Slot "set_iterator" "__iter__" "set_iterator.__iter__":=
 .of (owner:="set_iterator") (n:="__iter__") (by rw[typeLookup_type,builtinLookup_eq_fast];kernel_rfl) (by decide +kernel) (by decide +kernel) (by decide +kernel) (by first | exact .inl (by decide +kernel) | exact .inr (by decide +kernel)) (by rw[isSubtype_type];kernel_rfl)
theorem Rf:entryFor table "set_iterator.__iter__"=some Builtin.«dict_keyiterator.__iter__»:=entryFor_alias (id':="dict_keyiterator.__iter__") (by kernel_rfl) rfl (by decide +kernel) (by kernel_rfl)
theorem Qn (a:Value):argsOk "set_iterator.__iter__" ⟨[a],[]⟩:=by
 unfold argsOk;rw[signature?_of (id:="set_iterator.__iter__") (n:=['_','_','r','e','t','i','_','_']) (o:=['r','o','t','a','r','e','t','i','_','t','e','s']) (by kernel_rfl) dY]
 kernel_rfl
end facts
end ST
namespace ST
open PySem PySem.SetTable
theorem bM {α:Type}:∀ (l:List α) (i:Nat) (x:α),l[i]?=some x->l.Perm (x::l.eraseIdx i)
 | [],i,x,h=>by simp at h
 | y::l,0,x,h=>by simp at h;subst h;simp
 | y::l,i+1,x,h=>by
  have ih:=bM l i x (by simpa using h);rw[List.eraseIdx_cons_succ];exact (ih.cons y).trans (.swap x y _)
theorem dE {α:Type}(next:Nat->Nat):∀ (f k:Nat) (left:List α) (out:Array α),left.length=f->(pickOrder.go next f k left out).toList.Perm (out.toList++left)
 | 0,k,left,out,h=>by
  cases left with
  | nil=>unfold pickOrder.go;simp
  | cons _ _=>simp at h
 | f+1,k,left,out,h=>by
  unfold pickOrder.go;have hlt:next k%left.length<left.length:=Nat.mod_lt _ (by omega);rw[List.getElem?_eq_getElem hlt];dsimp only;refine (dE next f (k+1) _ _ (by rw[List.length_eraseIdx_of_lt hlt];omega)).trans ?_;rw[Array.toList_push,List.append_assoc];exact (bM left _ _ (List.getElem?_eq_getElem hlt)).symm.append_left _
theorem Wj {α:Type}(next:Nat->Nat) (xs:Array α):(pickOrder next xs).toList.Perm xs.toList:=by
 unfold pickOrder;simpa using dE next xs.size 0 xs.toList #[] (by simp)
noncomputable def comes (w:World) (a:Addr) (es:Array (Int×Value)) (ep:Nat):Array (Int×Value):=if w.params.followText "set-order"=true then pickOrder (w.params.setOrder a ep) es else es
theorem pB (w:World) (a:Addr) (es:Array (Int×Value)) (ep:Nat):(comes w a es ep).toList.Perm es.toList:=by
 unfold comes;split
 .exact Wj _ _
 .exact .refl _
noncomputable def sQ (a:Addr) (slot i n ep:Nat):Obj:={ cls:=.type "set_iterator",data:=.fields #[rawInt slot,rawInt i,.ref a,rawInt n,rawInt ep] }
noncomputable def slotAt (t:SetTable):Nat->Nat
 | 0=>0
 | i+1=>t.place.getD i 0+1
theorem Qk {t:SetTable}(hr:uE t.place.toList):∀ i,i<=t.place.size->below t.place (slotAt t i)=i
 | 0,_=>by
  obtain⟨h1,h2,h3⟩:=k4 (xs:=t.place) (j:=0) hr;rcases Nat.eq_zero_or_pos (below t.place 0) with q | q
  .exact q
  .have:=h2 0 (by omega) q;omega
 | i+1,hi=>by
  have hd:t.place.getD i 0=t.place[i]:=gg (by omega);show below t.place (t.place.getD i 0+1)=i+1;rw[hd];obtain⟨h1,h2,h3⟩:=k4 (xs:=t.place) (j:=t.place[i] + 1) hr;have wJ:∀ a b (ha:a<t.place.size) (hb:b<t.place.size),a<b->t.place[a]<t.place[b]:=λ a b ha hb hab=>by
   have r:=List.pairwise_iff_getElem.mp hr a b (by simpa using ha) (by simpa using hb) hab;rw[Array.getElem_toList,Array.getElem_toList] at r;exact r
  rcases Nat.lt_trichotomy (below t.place (t.place[i] + 1)) (i+1) with q | q | q
  .have:=h3 i (by omega) (by omega);omega
  .exact q
  .have a:=h2 (i+1) (by omega) q;have b:=wJ i (i+1) (by omega) (by omega) (by omega);omega
structure wV (w:World) (h:Heap) (a:Addr) (es:Array (Int×Value)) (ep:Nat) (t:SetTable):Prop where
 get:h.get? a=some { cls:=.type "set",dict:=none,data:=.set es ep t }
 fits:t.fits es.size=true
 wJ:uE t.place.toList
 led:t.led=vA w
 plain:t.plain=true
theorem wV.size {w:World}{h:Heap}{a:Addr}{es:Array (Int×Value)}{ep:Nat}{t:SetTable}(S:wV w h a es ep t):t.place.size=es.size:=by
 have:=S.fits;simp only[SetTable.fits,Bool.and_eq_true,beq_iff_eq] at this;exact this.1
section
variable {prog:Program}{w:World}{A:Around}{E:Value->Shared->Prop}{s:Shared}
theorem c6 {a:Addr}{es:Array (Int×Value)}{ep:Nat}{t:SetTable}{i:Nat}{Q:Option (Value×Nat)->Shared->Prop}(S:wV w s.heap a es ep t) (hi:i<=es.size) (slot:Nat) (hs:w.params.followText "set-order"=false->slot=slotAt t i)
  (h:∀ slot',(w.params.followText "set-order"=false->slot'=slotAt t (i+1))->Q ((comes w a es ep)[i]?.map λ e=>(e.2,slot')) s):wpAny (model prog w) A (setNext a slot i ep) Q E s:=by
 unfold setNext setsByText;refine zWb (wpAny_setState_of S.get rfl S.fits ?_);dsimp only;refine zWb (zWb (wpAny_askSetting (wpAny_pure ?_)));show wpAny _ A (if w.params.followText "set-order"=true then _ else _) Q E s;cases hb:w.params.followText "set-order" with
 | true=>
  rw[if_pos rfl,if_neg (by simp)];unfold setWalk setsByText;refine zWb (zWb (wpAny_setState_of S.get rfl S.fits ?_));dsimp only;refine zWb (zWb (wpAny_askSetting (wpAny_pure ?_)));show wpAny _ A (if w.params.followText "set-order"=true then _ else _) _ E s;rw[if_pos hb];refine zWb (wpAny_askSetting (wpAny_pure ?_));refine wpAny_pure ?_;have:=h slot (λ q=>by rw[hb] at q;cases q);unfold comes at this;rw[if_pos hb] at this;exact this
 | false=>
  rw[if_neg (by simp)];split
  .rename_i hd;have hd':(!t.plain&&decide (es.size>1))=true:=hd;rw[S.plain] at hd';simp at hd'
  .show wpAny _ A ((if (!t.led&&!es.isEmpty)=true then unsupported "set:maker-not-led" else pure ()) >>= _) Q E s;have hl:t.led=true:=by rw[S.led];unfold vA;rw[hb];rfl
   rw[if_neg (by rw[hl];simp)];refine zWb (wpAny_pure (wpAny_pure ?_));have hsl:=hs hb;have hz:=S.size;rw[hsl,Qk S.wJ i (by rw[hz];exact hi)];have:=h (slotAt t (i+1)) (λ _=>rfl);unfold comes at this;rw[if_neg (by rw[hb];simp)] at this;rcases Nat.lt_or_ge i es.size with q | q
   .have hp:i<t.place.size:=by rw[hz];exact q
    rw[Array.getElem?_eq_getElem q] at this;rw[Array.getElem?_eq_getElem q,Array.getElem?_eq_getElem hp];have e:slotAt t (i+1)=t.place[i] + 1:=by show t.place.getD i 0+1=_;rw[gg hp]
    rw[e] at this;exact this
   .rw[Array.getElem?_eq_none q] at this;rw[Array.getElem?_eq_none q];exact this
theorem rW {a I:Addr}{slot i n ep:Nat}(ho:s.heap.get? I=some (sQ a slot i n ep)):s.TypeIs (.ref I) "set_iterator":=⟨_,ho,rfl⟩
theorem e9 (k:Nat):((k:Int)).toNat=k:=Int.toNat_natCast k
theorem Xf {I a:Addr}{es:Array (Int×Value)}{ep:Nat}{t:SetTable}{i slot:Nat}{e:Int×Value}{Q:Option Value->Shared->Prop}(ho:s.heap.get? I=some (sQ a slot i es.size ep)) (S:wV w s.heap a es ep t) (hs:w.params.followText "set-order"=false->slot=slotAt t i) (he:(comes w a es ep)[i]?=some e)
  (hi:i<es.size) (h:∀ h' slot',(w.params.followText "set-order"=false->slot'=slotAt t (i+1))->h'.get? I=some (sQ a slot' (i+1) es.size ep)->Heap.SameBut I s.heap h'->Q (some e.2) { s with heap:=h' }):wpAny (model prog w) A (pyNext (.ref I)) Q E s:=by
 unfold pyNext;refine zWb (wpAny_attempt (wpAny_callSpecial?_slot (name:=Str.ofString "__next__") (rW ho) qB (wpAny_call_entry qB (rW ho) bQ ?_ (aX _))));refine zWb (wpAny_pure ?_);dsimp only;refine zWb (wpAny_fieldsOf ho rfl ?_);dsimp only[rawInt];refine zWb (zWb (wpAny_setState_of S.get rfl S.fits (wpAny_pure ?_)));rw[if_neg (by simp)];refine zWb (c6 S (by omega) slot hs λ slot' hs'=>?_);rw[e9] at hs' ⊢;rw[he];dsimp only[Option.map_some];refine zWb (wpAny_setField ho rfl (by simp) ?_);have o1:=Heap.get?_update_self (Obj.mapFields (·.set! 0 (Value.int (slot':Int) 0))) ho rfl;refine zWb (wpAny_setField o1 rfl (by simp) ?_);have o2:=Heap.get?_update_self (Obj.mapFields (·.set! 1 (Value.int ((i:Int)+1) 0))) o1 rfl;refine wpAny_pure ⟨_,rfl,wpAny_pure (h _ slot' hs' o2 ((Heap.SameBut.update ..).trans (Heap.SameBut.update ..)))⟩
theorem Xg {I a:Addr}{es:Array (Int×Value)}{ep:Nat}{t:SetTable}{slot:Nat}{Q:Option Value->Shared->Prop}(hh:A.handled=none) (ho:s.heap.get? I=some (sQ a slot es.size es.size ep)) (S:wV w s.heap a es ep t) (hs:w.params.followText "set-order"=false->slot=slotAt t es.size)
  (h:∀ h',Heap.ExtBut I s.heap h'->Q none { s with heap:=h' }):wpAny (model prog w) A (pyNext (.ref I)) Q E s:=by
 have hn:(comes w a es ep)[es.size]?=none:=by
  have:=(pB w a es ep).length_eq;simp only[Array.length_toList] at this;rw[Array.getElem?_eq_none (by omega)]
 unfold pyNext;refine zWb (wpAny_attempt (wpAny_callSpecial?_slot (name:=Str.ofString "__next__") (rW ho) qB (wpAny_call_entry qB (rW ho) bQ ?_ (aX _))));refine zWb (wpAny_pure ?_);dsimp only;refine zWb (wpAny_fieldsOf ho rfl ?_);dsimp only[rawInt];refine zWb (zWb (wpAny_setState_of S.get rfl S.fits (wpAny_pure ?_)));rw[if_neg (by simp)];refine zWb (c6 S (by simp) slot (by simpa using hs) λ slot' hs'=>?_);rw[e9,hn];dsimp only[Option.map_none];refine zWb (wpAny_setField ho rfl (by simp) ?_);refine zWb ?_;simp only[newExc,newTuple];refine zWb (wpAny_newObj_type ?_ (by size_fits));refine zWb (m:=firstArgMember _ _) (wpAny_of_eq (a:=Value.none) (by first | rfl | (simp only[firstArgMember];rfl)) (wpAny_newObj_type ?_ (by size_fits)));unfold raiseNew;refine zWb (wpAny_handled ?_);rw[show A.in1.handled=none from hh];refine zWb ((wpAny_pure (wpAny_throw ?_)));refine zWb ((wpAny_isInstance (T:="StopIteration") (b:=true) ⟨_,Heap.get?_push_size _ rfl,rfl⟩ isSubtype_stop ?_));exact wpAny_pure (h _ (((Heap.SameBut.update ..).extBut.push _).push _))
theorem Xe {I a:Addr}{slot i n ep:Nat}{Q:Value->Shared->Prop}(ho:s.heap.get? I=some (sQ a slot i n ep)) (h:Q (.ref I) s):wpAny (model prog w) A (pyIter (.ref I)) Q E s:=by
 refine wpAny_pyIter_slot (rW ho) eQ (wpAny_call_entry eQ (rW ho) Rf ?_ (Qn _));exact wpAny_pure ⟨_,rfl,"set_iterator",_,rW ho,qB.lookup,h⟩
theorem wV.keep {h h':Heap}{a:Addr}{es:Array (Int×Value)}{ep:Nat}{t:SetTable}(S:wV w h a es ep t) (k:∀ o,h.get? a=some o->h'.get? a=some o):wV w h' a es ep t:=⟨k _ S.get,S.fits,S.wJ,S.led,S.plain⟩
theorem Yr (hh:A.handled=none) (I a:Addr) (hne:a≠I) (es:Array (Int×Value)) (ep:Nat) (t:SetTable):
  Walks prog w A I [I,a] [I] es.size (λ i v=>∃ e,(comes w a es ep)[i]?=some e/\v=e.2) (λ i h=>(∃ slot,(w.params.followText "set-order"=false->slot=slotAt t i)/\h.get? I=some (sQ a slot i es.size ep))/\wV w h a es ep t) where
 sub:=λ b hb=>by simp at hb;simp[hb]
 frame:=λ _ _ _ st k=>by
  obtain⟨⟨slot,h1,h2⟩,S⟩:=st;exact⟨⟨slot,h1,k I (by simp) _ h2⟩,S.keep λ o e=>k a (by simp) o e⟩
 item:=λ i s Q E hi st hQ=>by
  obtain⟨⟨slot,h1,h2⟩,S⟩:=st;have hl:i<(comes w a es ep).size:=by
   have:=(pB w a es ep).length_eq;simp only[Array.length_toList] at this;omega
  refine Xf h2 S h1 (Array.getElem?_eq_getElem hl) hi λ h' slot' g1 g2 g3=>?_;exact hQ _ h' s.toks ⟨_,Array.getElem?_eq_getElem hl,rfl⟩ ⟨⟨slot',g1,g2⟩,S.keep λ o e=>(g3.2 a hne).trans e⟩ λ b o hb e=>(g3.2 b (λ z=>hb (by simp[z]))).trans e
 done:=λ s Q E st hQ=>by
  obtain⟨⟨slot,h1,h2⟩,S⟩:=st;exact Xg hh h2 S h1 λ h' g=>hQ h' s.toks λ b o hb e=>g b o (λ z=>hb (by simp[z])) e
 self:=λ _ _ _ _ st hQ=>by
  obtain⟨⟨slot,h1,h2⟩,S⟩:=st;exact Xe h2 hQ
end
end ST
namespace ST
open PySem PySem.SetTable
section
variable {prog:Program}{w:World}{A:Around}{E:Value->Shared->Prop}{s:Shared}
theorem Td:typeLookup (.type "set") "__len__"=pure (some (.builtin "set.__len__")):=F.slot_set_len.lookup
theorem split_len:splitId "set.__len__"=some ("set","__len__"):=by decide +kernel
theorem UE {a:Addr}{es:Array (Int×Value)}{ep:Nat}{t:SetTable}{Q:Bool->Shared->Prop}(S:wV w s.heap a es ep t) (h:Q false s):wpAny (model prog w) A (setDrawn a) Q E s:=by
 unfold setDrawn setsByText;refine zWb (wpAny_setState_of S.get rfl S.fits ?_);dsimp only;refine zWb (zWb (wpAny_askSetting (wpAny_pure (wpAny_pure ?_))));show Q (!w.params.followText "set-order"&&(!t.plain&&decide (es.size>1))) s;rw[S.plain];simpa using h
set_option maxRecDepth 100000 in
set_option maxHeartbeats 4000000 in
theorem UI {a:Addr}{es:Array (Int×Value)}{ep:Nat}{t:SetTable}{Q:Bool->Shared->Prop}(S:wV w s.heap a es ep t) (h:Q false s):wpAny (model prog w) A (Builtin.List.listLengthHint (.ref a)) Q E s:=by
 have Ty:s.TypeIs (.ref a) "set":=⟨_,S.get,rfl⟩
 unfold Builtin.List.listLengthHint;refine zWb (wpAny_specialOf Ty Td ?_);dsimp only;rw[split_len];dsimp only;refine zWb (wpAny_isInstance (b:=true) Ty sub_set_self ?_);rw[if_neg (by decide)];rw[if_pos (by decide +kernel)];refine zWb (wpAny_typeOf Ty ?_);exact wpAny_pure h
set_option maxRecDepth 100000 in
set_option maxHeartbeats 4000000 in
theorem R7 {a:Addr}{es:Array (Int×Value)}{ep:Nat}{t:SetTable}{Q:List Value->Shared->Prop}(hh:A.handled=none) (S:wV w s.heap a es ep t) (hn:es.size<=sizeLine)
  (h:∀ (h':Heap) (tk:Nat),(∀ b o,b<s.heap.objs.size->s.heap.get? b=some o->h'.get? b=some o)->s.heap.objs.size<=h'.objs.size->Q ((comes w a es ep).toList.map (·.2)) { s with heap:=h',toks:=tk }):wpAny (model prog w) A (collect (.ref a)) Q E s:=by
 have ha:a<s.heap.objs.size:=Heap.lt_size S.get;unfold collect;refine zWb (wpAny_runValue (codeAny_builtin F.entry_proto_collect ?_));rw[Around.under_plainId F.plain_proto_collect _];show wpAny _ A.in1 (newList [] >>= λ l=>again (.builtin "list.__iadd__" ⟨[l,.ref a],[]⟩)) _ _ s;refine zWb (wpAny_newObj_type (wpAny_pure ⟨plainId_quiet F.plain_list_iadd _,codeAny_builtin F.entry_list_iadd ?_⟩));rw[Around.under_plainId F.plain_list_iadd _]
 let L0:Obj:={ cls:=.type "list",data:=.seq ([]:List Value).toArray }
 have S1:wV w (s.heap.push L0) a es ep t:=S.keep λ o e=>zHp _ e;have T1:Shared.TypeIs { s with heap:=s.heap.push L0 } (.ref a) "set":=⟨_,S1.get,rfl⟩
 show wpAny _ A.in1 (Builtin.List.listExtendWith (.ref s.heap.objs.size) (.ref a) (.ref s.heap.objs.size)) _ _ { s with heap:=s.heap.push L0 };unfold Builtin.List.listExtendWith;refine zWb (wpAny_typeOf T1 ?_);have hne:s.heap.objs.size≠a:=Nat.ne_of_gt ha;have c1:Builtin.List.listSameRef (.ref s.heap.objs.size) (.ref a)=false:=by simp[Builtin.List.listSameRef,hne]
 rw[if_neg (by rw[c1];decide)];refine zWb (wpAny_pyIter_slot T1 F.slot_set_iter (wpAny_call_entry F.slot_set_iter T1 Rg ?_ (F.args_set_iter_1 _)));refine zWb (zWb (wpAny_pure (wpAny_pure ?_)));refine zWb (zWb (zWb (wpAny_setState_of S1.get rfl S1.fits (wpAny_pure (wpAny_pure ?_)))));refine zWb (UE S1 ?_);rw[if_neg (by decide)];refine zWb (wpAny_pure ?_);refine zWb (wpAny_setEpoch_of S1.get rfl S1.fits ?_);refine zWb (wpAny_newObj_type (wpAny_pure ⟨_,rfl,"set_iterator",_,⟨_,Heap.get?_push_size _ rfl,rfl⟩,qB.lookup,?_⟩))
 let I:=(s.heap.push L0).objs.size
 let h2:=(s.heap.push L0).push (sQ a 0 0 es.size ep)
 have S2:wV w h2 a es ep t:=S1.keep λ o e=>zHp _ e;have hI:h2.get? I=some (sQ a 0 0 es.size ep):=Heap.get?_push_size _ rfl;have hL:h2.get? s.heap.objs.size=some L0:=zHp _ (Heap.get?_push_size _ rfl);have hsz:(s.heap.push L0).objs.size=s.heap.objs.size+1:=Heap.size_push _ _;show wpAny _ A.in1 _ _ _ { s with heap:=h2 };refine zWb (wpAny_holding (UI (s:={ s with heap:=h2 }) S2 ?_));rw[if_pos (by decide +kernel)];refine zWb (wpAny_rule ?_);refine zWb ?_;show wpAny _ A.in1 (updateSeq s.heap.objs.size (·.push .none) >>= λ _=>updateSeq s.heap.objs.size (·.pop)) _ _ { s with heap:=h2 };refine zWb (wpAny_updateSeq hL rfl ?_);have hL2:=Heap.get?_update_self (Obj.mapSeq (·.push Value.none)) hL rfl;refine wpAny_updateSeq hL2 rfl ?_;have hL3:=Heap.get?_update_self (Obj.mapSeq (·.pop)) hL2 rfl
 let h3:=(h2.update s.heap.objs.size (Obj.mapSeq (·.push Value.none))).update s.heap.objs.size (Obj.mapSeq (·.pop))
 have oth:∀ b o,b≠s.heap.objs.size->h2.get? b=some o->h3.get? b=some o:=λ b o hb e=>(Heap.get?_update_other _ _ (Ne.symm hb)).trans ((Heap.get?_update_other _ _ (Ne.symm hb)).trans e);have haI:a≠I:=by show a≠(s.heap.push L0).objs.size;rw[hsz];exact Nat.ne_of_lt (Nat.lt_succ_of_lt ha)
 have hIn:I≠s.heap.objs.size:=by show (s.heap.push L0).objs.size≠_;rw[hsz];exact Nat.ne_of_gt (Nat.lt_succ_self _)
 refine wpAny_pure ⟨plainId_quiet F.plain_extend_loop _,codeAny_extend_loopS ((Yr (A:=A.in1) hh I a haI es ep t).toS) hn s.heap.objs.size ?_ _ es.size 0 { s with heap:=h3 } #[] _ rfl (Nat.zero_le _) ⟨⟨0,λ _=>rfl,oth I _ hIn hI⟩,S2.keep λ o e=>oth a o (Ne.symm hne) e⟩ hL3 (ItemsOf.nil _) λ s' acc c' hm hS' hacc=>?_⟩
 .intro hm;rcases List.mem_cons.mp hm with q | q
  .exact hIn q.symm
  .exact hne (List.mem_singleton.mp q)
 .refine zWb (wpAny_load hS' (wpAny_pure ?_));obtain⟨h',g',d',tk',os'⟩:=s';obtain rfl:g'=s.gens:=hm.gens;obtain rfl:d'=s.drawn:=hm.drawn;obtain rfl:os'=s.os:=hm.os;have hcm:(comes w a es ep).size=es.size:=by
   have:=(pB w a es ep).length_eq;simpa using this
  have e:acc.toList=(comes w a es ep).toList.map (·.2):=by
   refine List.ext_getElem? λ j=>?_;rw[List.getElem?_map];rcases Nat.lt_or_ge j es.size with q | q
   .have hjl:j<acc.size:=by rw[hacc.1];exact q
    have hj:acc[j]?=some acc[j]:=Array.getElem?_eq_getElem hjl;obtain⟨e,e1,e2⟩:=hacc.2 j _ hj;rw[Array.getElem?_toList,Array.getElem?_toList,hj,e1,e2];rfl
   .rw[Array.getElem?_toList,Array.getElem?_toList,Array.getElem?_eq_none (by rw[hacc.1];exact q),Array.getElem?_eq_none (by rw[hcm];exact q)];rfl
  rw[e];refine h h' tk' (λ b o hb e=>hm.heap b o (λ q=>?_) (oth b o (Nat.ne_of_lt hb) (zHp _ (zHp _ e)))) ?_
  .rcases List.mem_cons.mp q with q | q
   .exact Nat.ne_of_lt hb q
   .have q':b=(s.heap.push L0).objs.size:=List.mem_singleton.mp q;rw[hsz] at q';exact Nat.ne_of_lt (Nat.lt_succ_of_lt hb) q'
  .exact Nat.le_of_lt (Heap.lt_size hS')
end
end ST
namespace ST
open PySem PySem.SetTable PyProof.Rows L4
section
variable {prog:Program}{w:World}{A:Around}{E:Value->Shared->Prop}{s:Shared}
theorem eI {a:Addr}{es:Array (Int×Value)}{ep:Nat}{t:SetTable}{Q:Value->Shared->Prop}{Out:Array Value->Prop}(hh:A.handled=none) (S:wV w s.heap a es ep t) (hz:es.size<=sizeLine)
  (core:∀ s6:Shared,2<=es.size->(∀ b o,s.heap.get? b=some o->s6.heap.get? b=some o)->Core prog w A.in1.in1 E ((comes w a es ep).toList.map (·.2)) Out s6) (short:es.size<2->Out ((comes w a es ep).toList.map (·.2)).toArray)
  (fin:∀ (out:Array Value) (h':Heap) (tk l:Nat),Out out->out.size=es.size->s.heap.objs.size<=l->(∀ b o,s.heap.get? b=some o->h'.get? b=some o)->(∃ e,h'.get? l=some (seqObj "list" out e))->Q (.ref l) { s with heap:=h',toks:=tk }):
  wpAny (model prog w) A (call (.builtin "sorted") [.ref a]) Q E s:=by
 have hcl:((comes w a es ep).toList.map (·.2)).length=es.size:=by
  have:=(pB w a es ep).length_eq;rw[List.length_map,this,Array.length_toList]
 refine Calls.call_function_entry kind_sorted plain_sorted entry_sorted (args_sorted1 _) ?_;unfold Builtin.«sorted»;refine zWb (m:=checkCount "sorted" 1 1 _) (wpAny_pure (zWb (R7 (A:=A.in1) hh S hz λ h1 tk k1 k2=>zWb (wpAny_newList ?_ (by rw[hcl];exact hz)))));generalize hvs:(comes w a es ep).toList.map (·.2)=vs at *;have hoL:(h1.push (seqObj "list" vs.toArray 0)).get? h1.objs.size=some (seqObj "list" vs.toArray 0):=Heap.get?_push_size _ rfl;have k3:∀ b o,s.heap.get? b=some o->h1.get? b=some o:=λ b o q=>k1 b o (Heap.lt_size q) q;show wpAny _ _ _ _ _ { s with heap:=h1.push (seqObj "list" vs.toArray 0),toks:=tk };refine zWb (wpAny_holding (wpAny_call_entry slot_list_sort ⟨_,hoL,rfl⟩ entry_list_sort (iP hoL (by rw[hcl];exact hz) (λ h2 s6 k=>core s6 (by rw[<- hcl];exact h2) λ b o q=>k b o ?_ (zHp _ (k3 b o q))) (λ h2=>short (by rw[<- hcl];exact h2)) λ out g1 g2=>⟨_,rfl,?_⟩) (args_list_sort _)))
 .exact Nat.ne_of_lt (Nat.lt_of_lt_of_le (Heap.lt_size q) k2)
 .refine wpAny_pure ⟨_,rfl,fin out _ tk h1.objs.size g1 (by rw[g2,hcl]) k2 (λ b o q=>?_) (sortedHeap_at (n:=0) hoL)⟩;have hlt:b<h1.objs.size:=Heap.lt_size (k3 b o q);rw[sortedHeap_old (Nat.ne_of_lt hlt) (by rw[size_push'];exact Nat.lt_succ_of_lt hlt),Heap.get?_push_ne _ _ _ (Nat.ne_of_lt hlt)];exact k3 b o q
end
end ST
namespace ST
open PySem PySem.SetTable PySem.Spec PyProof.Rows L2
def yT (w:World) (a:Addr) (us:List Value):Heap->Prop:=λ h=>∃ es ep t,wV w h a es ep t/\es.toList.map (·.2)=us
theorem yT.t5 {w:World}{a:Addr}{us:List Value}{h1 h2:Heap}(S:yT w a us h1) (k:∀ o,h1.get? a=some o->h2.get? a=some o):yT w a us h2:=by
 obtain⟨es,ep,t,S,e⟩:=S;exact⟨es,ep,t,S.keep k,e⟩
theorem vO.at {prog:Program}{w:World}{h:Heap}{a:Addr}{xs:List (List Int×Addr)}(S:vO prog w h a xs (vA w)):yT w a (xs.map λ e=>Value.ref e.2) h:=by
 obtain⟨⟨es,ep,t,ho,X,h1,h2,h3⟩,_⟩:=S;exact⟨es,ep,t,⟨ho,X.fits,X.tab.wJ,h1,h2⟩,by rw[X.es,List.map_map];rfl⟩
section
variable {X:Cx}
abbrev kE (K:PySem.W.Frag) (H:Hp) (ys:List V) (rows:List (List Int)):Prop:=Paired (λ v r=>r≠[]/\∃ b,v=V.ref b/\yb K H b (r.map V.int)) ys rows
theorem cW:∀ {ns:List Int}{us:List Value},Vals (ns.map V.int) us->∀ {prog:Program}{w:World},ItemsAre (intKind prog w) ns us
 | [],_,.nil,_,_=>.nil
 | n::ns,_,.cons r t,prog,w=>by
  obtain⟨tk,rfl⟩:=r;exact .cons (intKind_is _ _ _ _) (cW t)
structure qj (ys:List V) (rows:List (List Int)) (vs:List V) (rs:List (List Int)):Prop where
 sub:∀ (i:Nat) v r,vs[i]?=some v->rs[i]?=some r->∃ (j:Nat),ys[j]?=some v/\rows[j]?=some r
 len:vs.length=rs.length
 nd:rs.Nodup
 all:∀ r∈rows,r∈rs
theorem RJ (hc:X.calm=true) (hu:X.A.units+64<cLine):yK X (.type "set") (λ xs H Q=>∃ p ys,∃ rows:List (List Int),xs=[.ref p]/\zQ X.K H p ys/\kE X.K H ys rows/\rows.length<64/\
  ∀ (l:Addr) (us:List Value) (vs:List V) (rs:List (List Int)),H l=none->Vals vs us->qj ys rows vs rs->Q (.ref l) (upd H l (.ext (yT X.w l us)))):=by
 intro pins s σ H xs us Q I r h;obtain⟨p,ys,rows,rfl,hq,hr,h64,q⟩:=h;obtain⟨u,rfl,ru⟩:=vals1 r;cases ru;obtain⟨its,rv,pl,hz⟩:=I.list hq;have hl:=rv.length;have hlr:ys.length=rows.length:=Paired.length hr;have uK:qf X.prog X.w s.heap its.toArray rows:=λ i v hv=>by
  have hv':its[i]?=some v:=by simpa using hv
  have hi:i<its.length:=(List.getElem?_eq_some_iff.mp hv').1;obtain⟨hne,b,hb,hsq⟩:=L4.Paired.at' hr (i:=i) (by omega) V.zk ([]:List Int);have hy:ys[i]?=some (V.ref b):=by
   rw[List.getElem?_eq_getElem (by omega)];have:ys.getD i V.zk=ys[i]'(by omega):=by simp[show i<ys.length by omega]
   rw[this] at hb;rw[hb]
  obtain⟨v',e1,e2⟩:=rv.get hy;rw[hv'] at e1;cases e1;cases (show v=Value.ref b from e2);obtain⟨its2,rv2,⟨o,e,hcl,n,hd⟩,_⟩:=I.tuple hsq;refine⟨b,rows.getD i [],rfl,?_,o,its2.toArray,n,e,hcl,hd,by simpa using cW rv2⟩;simp[show i<rows.length by omega]
 have hh:X.A.handled=none:=I.ok.hd hc;refine RO (A:=X.A) hh hu pl.isList uK (by rw[List.size_toArray];omega) λ h' tk xs S U k=>?_;have kk:∀ b o,s.heap.get? b=some o->h'.get? b=some o:=λ b o e=>k b o (Heap.lt_size e) e;have hfr:H s.heap.objs.size=none:=I.zE.fresh (Nat.le_refl _);have hSO:=S.at;have vals:Vals (xs.map λ e=>V.ref e.2) (xs.map λ e=>Value.ref e.2):=by
  clear S U hSO
  induction xs with
  | nil=>exact .nil
  | cons e xs ih=>exact .cons rfl ih
 refine⟨.ref s.heap.objs.size,_,I.laid (t':=tk) (o:=.ext (yT X.w s.heap.objs.size (xs.map λ e=>Value.ref e.2))) kk (Nat.le_refl _) ?_,rfl,q _ _ (xs.map λ e=>V.ref e.2) (xs.map (·.1)) hfr vals ⟨λ i v r hv hr'=>?_,by simp,S.nd,λ r hr'=>?_⟩⟩
 .obtain⟨es,ep,t,St,e⟩:=id hSO;exact⟨hSO,⟨_,St.get⟩,λ h1 h2 S1 k=>S1.t5 k⟩
 .rw[List.getElem?_map] at hv hr';obtain⟨e,e1,rfl⟩:=zOm hv;rw[e1] at hr';cases hr';obtain⟨j,j1,j2,j3⟩:=U.own e (List.mem_of_getElem? e1);refine⟨j,?_,j3⟩;have hj':its[j]?=some (Value.ref e.2):=by simpa using j2
  have hjl:j<ys.length:=by rw[hl];exact (List.getElem?_eq_some_iff.mp hj').1
  obtain⟨v',e2,e3⟩:=rv.get (List.getElem?_eq_getElem hjl);rw[hj'] at e2;cases e2;obtain⟨hne,b,hb,_⟩:=L4.Paired.at' hr (i:=j) (by omega) V.zk ([]:List Int);have:ys.getD j V.zk=ys[j]:=by simp[hjl]
  rw[this] at hb;rw[hb] at e3;cases (show Value.ref e.2=Value.ref b from e3);rw[List.getElem?_eq_getElem hjl,hb]
 .obtain⟨j,hj⟩:=List.mem_iff_getElem?.mp hr';exact U.all j r (by have:=(List.getElem?_eq_some_iff.mp hj).1;rw[List.size_toArray];omega) hj
theorem Paired.mk {α β:Type}{F:α->β->Prop}:∀ {l:List α}{m:List β},l.length=m.length->(∀ (i:Nat) a b,l[i]?=some a->m[i]?=some b->F a b)->Paired F l m
 | [],[],_,_=>.nil
 | a::l,b::m,h,f=>.cons (f 0 a b rfl rfl) (Paired.mk (by simpa using h) λ i x y hx hy=>f (i+1) x y (by simpa using hx) (by simpa using hy))
 | [],_::_,h,_=>by simp at h
 | _::_,[],h,_=>by simp at h
theorem RH (hc:X.calm=true):yK X (.builtin "sorted") (λ xs H Q=>∃ l us vs,∃ rs:List (List Int),xs=[.ref l]/\H l=some (.ext (yT X.w l us))/\Vals vs us/\kE X.K H vs rs/\rs.length<64/\
  ∀ (p:Addr) (idx:List Nat),H p=none->idx.Perm (List.range vs.length)->(idx.map λ i=>rs.getD i []).Pairwise (λ a b=>HT.lexLt b a=false)->Q (.ref p) (upd H p (.lst (idx.map λ i=>vs.getD i .zk)))):=by
 intro pins s σ H xs us0 Q I r h;obtain⟨l,us,vs,rs,rfl,hl,hv,hr,h64,q⟩:=h;obtain⟨u,rfl,ru⟩:=vals1 r;cases ru;obtain⟨⟨es,ep,t,S,eu⟩,-,-⟩:=(show xm X.prog X.w H s.heap l (.ext (yT X.w l us)) from I.zE l _ hl)
 have hlen:es.size=us.length:=by rw[<- eu];simp
 have hvl:=hv.length;have hrl:vs.length=rs.length:=Paired.length hr;have hh:X.A.handled=none:=I.ok.hd hc;obtain⟨ix,ix1,ix2⟩:∃ ix:List Nat,ix.Perm (List.range us.length)/\(comes X.w l es ep).toList.map (·.2)=ix.map λ i=>us.getD i Value.none:=by
  have hp:((comes X.w l es ep).toList.map (·.2)).Perm us:=by rw[<- eu];exact (pB X.w l es ep).map _
  generalize (comes X.w l es ep).toList.map (·.2)=cs at hp;clear eu hl hv hvl hlen
  induction hp with
  | nil=>exact⟨[],.refl _,rfl⟩
  | @cons x a b _ ih=>
   obtain⟨ix,i1,i2⟩:=ih;refine⟨0::ix.map (· + 1),?_,?_⟩
   .rw[List.length_cons,List.range_succ_eq_map];exact (i1.map _).cons 0
   .rw[List.map_cons,List.map_map,i2];rfl
  | @swap x y a=>
   refine⟨1::0::(List.range a.length).map (· + 2),?_,?_⟩
   .rw[List.length_cons,List.length_cons,List.range_succ_eq_map,List.range_succ_eq_map,List.map_cons,List.map_map];exact .swap _ _ _
   .rw[List.map_cons,List.map_cons,List.map_map];refine congrArg _ (congrArg _ ?_);refine List.ext_getElem (by simp) λ i h1 h2=>?_;simp[h1]
  | @trans a b c _ _ ih1 ih2=>
   obtain⟨i1,p1,e1⟩:=ih1;obtain⟨i2,p2,e2⟩:=ih2;have hlb:b.length=c.length:=by rw[e2,List.length_map,p2.length_eq];simp
   refine⟨i1.map λ i=>i2.getD i 0,?_,?_⟩
   .refine (p1.map _).trans ?_;have e:(List.range b.length).map (λ i=>i2.getD i 0)=i2:=by
     have hl2:i2.length=b.length:=by rw[p2.length_eq,hlb];simp
     rw[<- hl2];refine List.ext_getElem (by simp) λ i h1 h2=>?_;simp[h2]
    rw[e];exact p2
   .rw[e1,List.map_map];refine List.map_congr_left λ i hi=>?_;have hi':i<b.length:=by simpa using p1.mem_iff.mp hi
    have hl2:i<i2.length:=by rw[p2.length_eq,<- hlb];simpa using hi'
    show b.getD i _=c.getD (i2.getD i 0) _;rw[e2];simp[hl2]
 have hix:∀ i∈ix,i<us.length:=λ i hi=>by simpa using ix1.mem_iff.mp hi
 have rows_at:∀ h6:Heap,(∀ b o,s.heap.get? b=some o->h6.get? b=some o)->L4.tX h6 ((comes X.w l es ep).toList.map (·.2)) (ix.map λ i=>rs.getD i []):=λ h6 k=>by
  rw[ix2];refine Paired.mk (by simp) λ j a b ha hb=>?_;rw[List.getElem?_map] at ha hb;obtain⟨i,hi,rfl⟩:=zOm ha;rw[hi] at hb;cases hb;have hil:=hix i (List.mem_of_getElem? hi);obtain⟨hne,b,hbv,hsq⟩:=L4.Paired.at' hr (i:=i) (by omega) V.zk ([]:List Int);obtain⟨u',e1,e2⟩:=hv.get (i:=i) (x:=vs.getD i V.zk) (by simp[show i<vs.length by omega]);rw[hbv] at e2;cases (show u'=Value.ref b from e2);obtain⟨its2,rv2,⟨o,e,hcl,n,hd⟩,_⟩:=I.tuple hsq;have eg:us.getD i Value.none=Value.ref b:=by simp[e1]
  refine⟨hne,b,o,its2.toArray,n,eg,k _ _ e,hcl,hd,by simpa using intsAre_of rv2⟩
 have hcl:((comes X.w l es ep).toList.map (·.2)).length=us.length:=by rw[ix2,List.length_map,ix1.length_eq];simp
 refine eI (Out:=L4.mh ((comes X.w l es ep).toList.map (·.2)) (ix.map λ i=>rs.getD i [])) hh S (by rw[hlen];have:sizeLine=16777216:=rfl;omega) (λ s6 h2 k=>L4.gA (rows_at _ k) (by rw[hcl,<- hlen];exact h2) (by rw[hcl];omega)) (λ h1=>?_) λ out h' tk p ho hs hp k hat=>?_
 .refine⟨List.range ((comes X.w l es ep).toList.map (·.2)).length,.refl _,?_,?_⟩
  .refine List.ext_getElem (by simp) λ i h1 h2=>?_;simp at h2;simp[h2]
  .rw[List.pairwise_map,List.pairwise_iff_getElem];intro i j hi hj hij;rw[hcl] at hi hj;simp at hi hj;omega
 .obtain⟨idx,g1,g2,g3⟩:=ho;obtain⟨e,he⟩:=hat;rw[hcl] at g1;have hfr:H p=none:=I.zE.fresh hp;have hidx:∀ i∈idx,i<us.length:=λ i hi=>by simpa using g1.mem_iff.mp hi
  have hxl:ix.length=us.length:=by rw[ix1.length_eq];simp
  let jx:=idx.map λ i=>ix.getD i 0
  have hjp:jx.Perm (List.range vs.length):=by
   rw[hvl];refine (g1.map _).trans ?_;have e:(List.range us.length).map (λ i=>ix.getD i 0)=ix:=by
    rw[<- hxl];refine List.ext_getElem (by simp) λ i h1 h2=>?_;simp[h2]
   rw[e];exact ix1
  have hjr:(jx.map λ i=>rs.getD i [])=idx.map λ i=>(ix.map λ i=>rs.getD i []).getD i []:=by
   rw[List.map_map];refine List.map_congr_left λ i hi=>?_;have:=hidx i hi;simp[show i<ix.length by omega]
  refine⟨.ref p,_,I.laid (t':=tk) (o:=.lst (jx.map λ i=>vs.getD i .zk)) k hp ?_,rfl,q p jx hfr hjp (by rw[hjr];exact g3)⟩;refine⟨by rw[List.length_map,hjp.length_eq,List.length_range];have:sizeLine=16777216:=rfl;omega,out.toList,e,?_,by simpa using he⟩;rw[g2,ix2];refine Paired.mk (by simp[jx]) λ j a b ha hb=>?_;rw[List.getElem?_map] at ha hb;obtain⟨i,hi,rfl⟩:=zOm hb;simp only[jx,List.getElem?_map,hi,Option.map_some,Option.some.injEq] at ha;have hil:=hidx i (List.mem_of_getElem? hi);have hx:ix.getD i 0<us.length:=by
   have:ix.getD i 0∈ix:=by simp[show i<ix.length by omega]
   exact hix _ this
  obtain⟨u',e1,e2⟩:=hv.get (i:=ix.getD i 0) (x:=vs.getD (ix.getD i 0) V.zk) (by
   have hx':ix.getD i 0<vs.length:=by omega
   generalize ix.getD i 0=q at hx';rw[List.getD_eq_getElem?_getD,List.getElem?_eq_getElem hx'];rfl)
  subst ha;have e3:(ix.map λ i=>us.getD i Value.none).getD i Value.none=u':=by
   simp[show i<ix.length by omega] at e1 ⊢;simp[e1]
  rw[e3];exact e2
end
end ST
namespace L5
open PySem PySem.Spec L2 L3
open PyProof.Rows hiding St
noncomputable def wB:List (List Int)->List (List Int)
 | []=>[]
 | r::rs=>if r∈wB rs then wB rs else r::wB rs
theorem oW {r:List Int}:∀ {rs:List (List Int)},r∈wB rs↔r∈rs
 | []=>.rfl
 | x::rs=>by
  unfold wB;split
  .rename_i h;rw[oW,List.mem_cons];exact⟨.inr,λ h'=>h'.elim (λ e=>e▸oW.mp h) id⟩
  .rw[List.mem_cons,List.mem_cons,oW]
theorem iB:∀ rs:List (List Int),(wB rs).Nodup
 | []=>.nil
 | x::rs=>by
  unfold wB;split
  .exact iB rs
  .rename_i h;exact List.nodup_cons.mpr ⟨h,iB rs⟩
theorem lI:∀ rs:List (List Int),(wB rs).length<=rs.length
 | []=>Nat.le_refl _
 | x::rs=>by
  unfold wB;have:=lI rs;split <;> simp only[List.length_cons] <;> omega
def uA:xM:=λ ds S Q=>match ds with
 | [.tup _]=>False
 | [d]=>∃ rows:List (List Int),zZ d S=some (rows.map wc)/\rows.length<64/\(∀ r∈rows,r≠[])/\∀ l,S l=none->Q (.ref l) (ups S l (.lst ((L4.xQ (wB rows)).map wc)))
 | _=>False
noncomputable def mU:List T->Option T
 | [.lst ts]=>(vX ts).bind λ rs=>if rs.length<64/\∀ r∈rs,r≠[] then some (.lst ((L4.xQ (wB rs)).map yt)) else none
 | _=>none
theorem Ss:vS zM mU uA:=λ S Z ys z ds Q hz hv e hq=>by
 unfold mU at e;split at e
 .obtain⟨d,rfl,h1⟩:=vw hv;obtain⟨rs,e1,e2⟩:=zOb e;split at e2
  .rename_i hc;cases e2;cases jQ e1;obtain⟨es,h2,h3⟩:=h1.seq rfl;cases q8.mp h3;have key:∃ rows:List (List Int),zZ d S=some (rows.map wc)/\rows.length<64/\(∀ r∈rows,r≠[])/\∀ l,S l=none->Q (.ref l) (ups S l (.lst ((L4.xQ (wB rows)).map wc))):=
    ⟨rs,h2,hc.1,hc.2,λ l hl=>hq _ _ (.new hl _) (sH hz hl (q8.mpr rfl))⟩
   obtain⟨_,q | ⟨a,q,_⟩,_⟩:=h1.lst
   .subst q;exact key
   .subst q;exact key
  .cases e2
 .cases e
section
variable {X:Cx}{K:PySem.W.Frag}{e:Expr}{tA:y6}{pos pos2 p p2:Pos}
theorem uA.mo:vR uA:=λ ds S Q Q' hq h=>by
 unfold uA at h ⊢;split at h
 .exact h.elim
 .obtain⟨rows,h1,h2,h3,h4⟩:=h;exact⟨rows,h1,h2,h3,λ l hl=>hq _ _ (h4 l hl)⟩
 .exact h.elim
theorem zq.pick {H:Hp}{ys vs:List V}{rows rs:List (List Int)}(h:zq K H (rows.map wc) ys) (P:ST.qj ys rows vs rs):zq K H (rs.map wc) vs:=by
 have key:∀ (vs:List V) (rs:List (List Int)),vs.length=rs.length->(∀ (i:Nat) v r,vs[i]?=some v->rs[i]?=some r->∃ (j:Nat),ys[j]?=some v/\rows[j]?=some r)->zq K H (rs.map wc) vs:=by
  intro vs
  induction vs with
  | nil=>intro rs hl _;cases rs with
   | nil=>exact .nil
   | cons _ _=>simp at hl
  | cons v vs ih=>intro rs hl hp;cases rs with
   | nil=>simp at hl
   | cons r rs=>
    refine .cons ?_ (ih rs (by simpa using hl) λ i v r hv hr=>hp (i+1) v r (by simpa using hv) (by simpa using hr));obtain⟨j,j1,j2⟩:=hp 0 v r rfl rfl;obtain⟨x,e1,e2⟩:=h.get (i:=j) (d:=wc r) (by rw[List.getElem?_map,j2];rfl);rw[j1] at e1;cases e1;exact e2
 exact key vs rs P.len P.sub
theorem qj.mem {ys vs:List V}{rows rs:List (List Int)}(P:ST.qj ys rows vs rs) {r:List Int}:r∈rs↔r∈rows:=by
 refine⟨λ h=>?_,P.all r⟩;obtain⟨i,hi⟩:=List.mem_iff_getElem?.mp h;have hl:i<vs.length:=by rw[P.len];exact (List.getElem?_eq_some_iff.mp hi).1
 obtain⟨j,_,j2⟩:=P.sub i _ r (List.getElem?_eq_getElem hl) hi;exact List.mem_of_getElem? j2
theorem uA.fits {w:World}:uF K uA (λ xs H Q=>∃ p ys,∃ rows:List (List Int),xs=[.ref p]/\zQ K H p ys/\ST.kE K H ys rows/\rows.length<64/\
  ∀ (l:Addr) (us:List Value) (vs:List V) (rs:List (List Int)),H l=none->Vals vs us->ST.qj ys rows vs rs->
   ∃ l' us' vs',∃ rs':List (List Int),[V.ref l]=[.ref l']/\(upd H l (.ext (ST.yT w l us))) l'=some (.ext (ST.yT w l' us'))/\Vals vs' us'/\ST.kE K (upd H l (.ext (ST.yT w l us))) vs' rs'/\rs'.length<64/\
    ∀ (p:Addr) (idx:List Nat),(upd H l (.ext (ST.yT w l us))) p=none->idx.Perm (List.range vs'.length)->(idx.map λ i=>rs'.getD i []).Pairwise (λ a b=>HT.lexLt b a=false)->Q (.ref p) (upd (upd H l (.ext (ST.yT w l us))) p (.lst (idx.map λ i=>vs'.getD i .zk)))):=λ xs ds H S Q h0 h2 h=>by
 unfold uA at h;split at h
 .exact h.elim
 .rename_i d hn;obtain⟨x,hx,h1⟩:=h0.one;subst hx;obtain⟨rows,e,h64,hne,h⟩:=h;obtain⟨a,ys,rfl,g1,g2⟩:=rA h1 h2 e (λ ts z=>hn ts z);refine⟨a,ys,rows,rfl,g1,oo g2 hne,h64,λ l us vs rs hf hv P=>?_⟩;have g3:=zq.pick g2 P;have x1:Ext H (upd H l (.ext (ST.yT w l us))):=.new hf _;have hper:rs.Perm (wB rows):=(List.perm_ext_iff_of_nodup P.nd (iB rows)).mpr λ r=>by rw[qj.mem P,oW]
  refine⟨l,us,vs,rs,rfl,yL,hv,oo (zq.ext x1 _ g3) λ r hr=>hne r ((qj.mem P).mp hr),by rw[hper.length_eq];have:=lI rows;omega,λ p idx hp hi hs=>?_⟩;rw[P.len] at hi;have heq:=L4.eJ ((cB hi).trans hper) hs;have hpl:p≠l:=λ z=>by subst z;rw[yL] at hp;cases hp
  have hpH:H p=none:=by rw[yM hpl] at hp;exact hp
  have x2:Ext (upd H l (.ext (ST.yT w l us))) (upd (upd H l (.ext (ST.yT w l us))) p (.lst (idx.map λ i=>vs.getD i .zk))):=.new hp _;have r1:zN K (upd H l (.ext (ST.yT w l us))) S:=h2.new hf;refine h p (h2.none hpH) _ _ (by simp only[zg]) (x1.trans x2) (r1.ups x2 ⟨_,yL,?_⟩);rw[<- heq];exact zq.ext (x1.trans x2) _ (zq.perm g3 λ i h=>by simpa using hi.mem_iff.mp h)
 .exact h.elim
end
end L5
namespace ST
open PySem PySem.SetTable PyProof.Rows
theorem bA {t:SetTable}{hs:List Int}(T:Tab t hs) (h:Int):∀ (f k K:Nat),k<=K->K<k+f->(way t.mask h K).j∉t.place.toList->(∀ m<K,(way t.mask h m).j∈t.place.toList)->probe.go t (λ _=>h+1) h f (way t.mask h k)=some (.empty (way t.mask h K).j none)
 | 0,k,K,h1,h2,_,_=>by omega
 | f+1,k,K,h1,h2,h3,h4=>by
  by_cases e:k=K
  .subst e;unfold probe.go;rw[T.empty h3,kY]
  .obtain⟨i,g,p1,_⟩:=T.at (h4 k (by omega));have ih:=bA T h f (k+1) K (by omega) (by omega) h3 h4
   conv=>lhs;unfold probe.go
   rw[T.live p1];dsimp only;rw[if_neg (by intro q;have:=eq_of_beq q;omega),gO];exact ih
theorem SE {t:SetTable}{hs:List Int}(T:Tab t hs) (hl:hs.length<=t.mask) (h:Int):∃ j,t.freeSlot h=some (j,false)/\fH t h j:=by
 obtain⟨K,k1,k2,k3⟩:=T.first hl h;refine⟨(way t.mask h K).j,?_,⟨k2,K,rfl,k3⟩⟩;have g:=bA T h (10*turns t.mask) 0 K (Nat.zero_le _) (by unfold turns;omega) k2 k3;unfold SetTable.freeSlot;have e:t.probe (λ _=>h+1) h (t.probeStart h)=some (.empty (way t.mask h K).j none):=g;rw[e];rfl
structure vP (prog:Program) (w:World) (h:Heap) (a:Addr) (xs:List (Int×Tok)) (led:Bool):Prop where
 ex:∃ es ep t,h.get? a=some { cls:=.type "set",dict:=none,data:=.set es ep t }/\es.toList=xs.map (λ e=>((intKind prog w).hash e.1,Value.int e.1 e.2))/\Tab t (xs.map λ e=>(intKind prog w).hash e.1)/\t.led=led/\t.plain=true/\xs.length*5<t.mask*3
 nd:(xs.map (·.1)).Nodup
section
variable {prog:Program}{w:World}{A:Around}{E:Value->Shared->Prop}{s:Shared}
theorem fits_of {es:Array (Int×Value)}{t:SetTable}{hs:List Int}{n:Nat}(h1:es.size=n) (T:Tab t hs) (h2:hs.length=n) (h3:n<=t.mask):t.fits es.size=true:=by
 have l:=T.len;unfold SetTable.fits SetTable.fill;rw[T.sY,h1,l,h2];simp;omega
theorem o_ {n m:Int}{t:Tok}:(intKind prog w).is n (.int m t)=true↔n=m:=by
 constructor
 .intro h;obtain⟨t',e⟩:=Value.isInt_shape (show Value.isInt n (.int m t)=true from h);cases e;rfl
 .rintro rfl;exact intKind_is _ _ _ _
theorem Rh {es:Array (Int×Value)}{xs:List (Int×Tok)}(h:es.toList=xs.map (λ e=>((intKind prog w).hash e.1,Value.int e.1 e.2))):ElemsOf (intKind prog w) es.toList:=λ e he=>by
 rw[h] at he;obtain⟨x,_,rfl⟩:=List.mem_map.mp he;exact⟨⟨x.1,o_.mpr rfl,rfl⟩,rfl⟩
theorem X8 {es:Array (Int×Value)}{t:SetTable}{xs:List (Int×Tok)}{M wanted:Nat}(he:es.toList=xs.map (λ e=>((intKind prog w).hash e.1,Value.int e.1 e.2))) (hM:vu M) (hw:sizeAbove wanted=M+1) (hfew:xs.length*5<M*3):
  ∃ es' t',∃ xs':List (Int×Tok),relayAll t es wanted=(es',t',false)/\es'.toList=xs'.map (λ e=>((intKind prog w).hash e.1,Value.int e.1 e.2))/\xs'.Perm xs/\Tab t' (xs'.map λ e=>(intKind prog w).hash e.1)/\t'.mask=M/\t'.led=t.led/\t'.plain=t.plain/\es'.size=es.size:=by
 have hlen:es.size=xs.length:=by have:=congrArg List.length he;simpa using this
 have hhs:(es.map (·.1)).toList=xs.map λ e=>(intKind prog w).hash e.1:=by rw[Array.toList_map,he,List.map_map];rfl
 have hsz:(es.map (·.1)).size=xs.length:=by rw[Array.size_map,hlen]
 obtain⟨t',order,h1,h2,h3,h4,h5,h6,h7⟩:=cQ hM t.finger (t.movedTo M) t.led t.plain (es.map (·.1)) (by rw[hsz];omega);rw[hsz] at h6;have hlt:∀ k∈order.toList,k<xs.length:=λ k hk=>by simpa using h6.mem_iff.mp hk
 have hr:t.relaid (es.map (·.1)) wanted=some (t',order):=by
  unfold SetTable.relaid;rw[hw,Nat.add_sub_cancel];exact h1
 have hes':(order.filterMap (es[·]?)).toList=(order.toList.filterMap λ k=>xs[k]?).map λ e=>((intKind prog w).hash e.1,Value.int e.1 e.2):=by
  rw[Array.toList_filterMap,List.map_filterMap];congr 1;funext k;rw[<- Array.getElem?_toList,he,List.getElem?_map]
 have hperm:(order.toList.filterMap λ k=>xs[k]?).Perm xs:=(h6.filterMap _).trans (by rw[List.filterMap_getElem?_range_length]);have hsz':(order.filterMap (es[·]?)).size=es.size:=by
  rw[<- Array.length_toList,hes',List.length_map,hperm.length_eq,hlen]
 have hT:Tab t' ((order.toList.filterMap λ k=>xs[k]?).map λ e=>(intKind prog w).hash e.1):=by
  rw[<- ij xs (λ e=>(intKind prog w).hash e.1) 0 order.toList hlt,<- hhs];exact h7
 refine⟨_,t',_,?_,hes',hperm,hT,h2,h4,h5,hsz'⟩;have yf:coversAll order es.size=true:=by
  unfold coversAll;rw[List.isPerm_iff,hlen];exact h6
 have fit:t'.fits (order.filterMap (es[·]?)).size=true:=fits_of (n:=xs.length) (by rw[hsz',hlen]) hT (by rw[List.length_map,hperm.length_eq]) (by rw[h2];omega);unfold relayAll;rw[hr];dsimp only;rw[yf,fit];rfl
theorem add_int {a:Addr}{xs:List (Int×Tok)}{n:Int}{tk:Tok}{led:Bool}{Q:Bool->Shared->Prop}(S:vP prog w s.heap a xs led) (hn:xs.length<70)
  (h:∀ h' xs' r,Heap.SameBut a s.heap h'->vP prog w h' a xs' led->(n∈xs.map (·.1)/\xs'=xs\/n∉xs.map (·.1)/\xs'.Perm (xs++[(n,tk)]))->Q r { s with heap:=h' }):
  wpAny (model prog w) A (setAddHashed a (.int n tk) ((intKind prog w).hash n)) Q E s:=by
 have S0:=S;obtain⟨⟨es,ep,t,ho,he,T,hled,hpl,hfew⟩,hnd⟩:=S;have hlen:es.size=xs.length:=by have:=congrArg List.length he;simpa using this
 have hm7:7<=t.mask/\t.mask<=127:=by rcases T.mask with e | e | e <;> omega
 have fit:t.fits es.size=true:=fits_of (n:=xs.length) hlen T (by simp) (by omega);have hel:=Rh (prog:=prog) (w:=w) he;unfold setAddHashed setAddHashedIn;refine wpAny_holding (zWb (wpAny_setState_of ho rfl fit ?_));dsimp only;have bs:byScan (.int n tk) es=true:=by
  have h1:decide (es.size<scanBound)=true:=decide_eq_true (by unfold scanBound;omega);have h2:es.all (·.2.scannable)=true:=by
   rw[Array.all_eq_true_iff_forall_mem];intro e hm;exact (hel e (by simpa using hm)).2
  unfold byScan;rw[h1,h2];rfl
 rw[if_pos bs];refine zWb ?_;unfold setAddByScan;refine zWb (wpAny_rule (zWb (wpAny_setScan_of (k:=n) (o_.mpr rfl) ho rfl fit hel ?_)));have hfind:(es.toList.findIdx? (λ e=>(intKind prog w).is n e.2)).isSome=true↔n∈xs.map (·.1):=by
  rw[he,List.findIdx?_isSome,List.any_eq_true];constructor
  .rintro⟨e,hm,q⟩;obtain⟨x,hx,rfl⟩:=List.mem_map.mp hm;exact List.mem_map.mpr ⟨x,hx,(o_.mp q).symm⟩
  .intro hm;obtain⟨x,hx,rfl⟩:=List.mem_map.mp hm;exact⟨_,List.mem_map.mpr ⟨x,hx,rfl⟩,o_.mpr rfl⟩
 cases hc:es.toList.findIdx? (λ e=>(intKind prog w).is n e.2) with
 | some j=>
  dsimp only;have hm:=hfind.mp (by rw[hc];rfl);refine wpAny_pure ?_;dsimp only;exact wpAny_pure (h s.heap xs false ⟨rfl,λ _ _=>rfl⟩ S0 (.inl ⟨hm,rfl⟩))
 | none=>
  dsimp only;have hm:n∉xs.map (·.1):=λ q=>by have:=hfind.mpr q;rw[hc] at this;cases this
  obtain⟨j,fs,F⟩:=SE T (by rw[List.length_map];omega) ((intKind prog w).hash n);obtain⟨p1,p2,p3⟩:=T.put F;rw[List.length_map] at p1;have hpt:(t.put j).1.plain=true:=by rw[p2];exact hpl
  have hmt:(t.put j).1.mask=t.mask:=by rw[p2]
  have hlt:(t.put j).1.led=led:=by rw[p2];exact hled
  generalize hT:(t.put j)=P at *;obtain⟨t1,p⟩:=P;dsimp only at *
  let xs1:=xs.take p++(n,tk)::xs.drop p
  have hperm:xs1.Perm (xs++[(n,tk)]):=by
   have e:xs.take p++xs.drop p=xs:=List.take_append_drop p xs;have:xs1.Perm ((n,tk)::(xs.take p++xs.drop p)):=List.perm_middle;rw[e] at this;exact this.trans (List.perm_append_singleton _ _).symm
  have hl1:xs1.length=xs.length+1:=by rw[hperm.length_eq];simp
  have hes1:(insertAt es p ((intKind prog w).hash n,Value.int n tk)).toList=xs1.map λ e=>((intKind prog w).hash e.1,Value.int e.1 e.2):=by
   rw[toList_insertAt,he];simp[xs1,List.map_take,List.map_drop]
  have hsz1:(insertAt es p ((intKind prog w).hash n,Value.int n tk)).size=xs.length+1:=by rw[<- Array.length_toList,hes1,List.length_map,hl1]
  have T1:Tab t1 (xs1.map λ e=>(intKind prog w).hash e.1):=by
   have:xs1.map (λ e=>(intKind prog w).hash e.1)=(xs.map λ e=>(intKind prog w).hash e.1).take p++(intKind prog w).hash n::(xs.map λ e=>(intKind prog w).hash e.1).drop p:=by simp[xs1,List.map_take,List.map_drop]
   rw[this];exact p3
  have fit1:t1.fits (insertAt es p ((intKind prog w).hash n,Value.int n tk)).size=true:=fits_of (n:=xs.length+1) hsz1 T1 (by rw[List.length_map,hl1]) (by rw[hmt];omega);have hlay:layNew t es ((intKind prog w).hash n) (.int n tk)=(insertAt es p ((intKind prog w).hash n,Value.int n tk),t1,false,false):=by
   unfold layNew;rw[fs];dsimp only;rw[hT];dsimp only;unfold SetTable.orStandIn;rw[fit1];rfl
  have hsl:(insertAt es p ((intKind prog w).hash n,Value.int n tk)).size<=sizeLine:=by
   rw[hsz1];have:sizeLine=16777216:=rfl;omega
  have hnd1:(xs1.map (·.1)).Nodup:=by
   refine (hperm.map _).nodup_iff.mpr ?_;rw[List.map_append,List.nodup_append];refine⟨hnd,by simp,λ x hx y hy=>?_⟩;simp at hy;subst hy;exact λ e=>hm (e▸hx)
  have ho1:=lq (es':=insertAt es p ((intKind prog w).hash n,Value.int n tk)) (t':=t1) ho;have sb:=Heap.SameBut.update s.heap a (Obj.putSet (insertAt es p ((intKind prog w).hash n,Value.int n tk)) t1);have hfill:t1.fill=xs.length+1:=by
   have l:=T1.len;rw[List.length_map,hl1] at l;unfold SetTable.fill;rw[T1.sY,l];simp
  rw[hlay];dsimp only;refine zWb (m:=pure ()) (wpAny_pure ?_);rw[hpt];simp only[if_true];refine zWb (m:=pure true) (wpAny_pure ?_);simp only[if_true];refine zWb (wpAny_storeSet_of ho rfl ?_ hsl);by_cases hf:t1.tooFull=true
  .rw[hf];simp only[Bool.not_false,Bool.and_self,if_true];have hfull:t.mask*3<=(xs.length+1)*5:=by
    have:=hf;unfold SetTable.tooFull at this;rw[hfill,hmt] at this;simpa using this
   obtain⟨M',g1,g2,g3⟩:=eR xs.length t.mask T.mask hfew hfull hn;obtain⟨es2,t2,xs2,r1,r2,r3,r4,r5,r6,r7,r8⟩:=X8 (prog:=prog) (w:=w) (t:=t1) hes1 g1 (wanted:=grown (insertAt es p ((intKind prog w).hash n,Value.int n tk)).size) (by rw[hsz1];exact g2) (by rw[hl1];exact g3);rw[r1];dsimp only;refine zWb (m:=pure ()) (wpAny_pure (zWb (wpAny_storeSet_of ho1 rfl ?_ (by rw[r8];exact hsl))));refine wpAny_pure ?_;dsimp only;refine wpAny_pure (h _ xs2 true (sb.trans (Heap.SameBut.update _ a _)) ⟨⟨es2,ep+1+1,t2,lq ho1,r2,r4,by rw[r6];exact hlt,by rw[r7];exact hpt,by rw[r3.length_eq,hl1,r5];exact g3⟩,(r3.map _).nodup_iff.mpr hnd1⟩ (.inr ⟨hm,r3.trans hperm⟩))
  .have hf':t1.tooFull=false:=by simpa using hf
   rw[hf'];simp only[Bool.not_false,Bool.and_false,Bool.false_eq_true,if_false];have hfull:(xs.length+1)*5<t.mask*3:=by
    have:=hf';unfold SetTable.tooFull at this;rw[hfill,hmt] at this;simpa using this
   refine wpAny_pure ?_;dsimp only;exact wpAny_pure (h _ xs1 true sb ⟨⟨_,ep+1,t1,ho1,hes1,T1,hlt,hpt,by rw[hl1,hmt];exact hfull⟩,hnd1⟩ (.inr ⟨hm,hperm⟩))
end
end ST
namespace ST
open PySem PySem.SetTable PyProof.Rows
structure tU (its:Array Value) (ns:List Int) (i:Nat) (xs:List (Int×Tok)):Prop where
 own:∀ e∈xs,∃ j,j<i/\ns[j]?=some e.1
 all:∀ (j:Nat) r,j<i->ns[j]?=some r->r∈xs.map (·.1)
theorem iC:∀ (l m:List Int),l.Nodup->(∀ x∈l,x∈m)->l.length<=m.length
 | [],m,_,_=>Nat.zero_le _
 | x::l,m,hn,hs=>by
  have h1:=List.nodup_cons.mp hn;have hx:=hs x zMc;have:=iC l (m.erase x) h1.2 λ z hz=>(List.mem_erase_of_ne (λ e:z=x=>h1.1 (by rw[<- e];exact hz))).mpr (hs z (zMo _ hz));rw[List.length_erase_of_mem hx] at this;have:=List.length_pos_of_mem hx;simp only[List.length_cons];omega
theorem tU.len {its:Array Value}{ns:List Int}{i:Nat}{xs:List (Int×Tok)}(U:tU its ns i xs) (nd:(xs.map (·.1)).Nodup):xs.length<=i:=by
 have:=iC (xs.map (·.1)) ((List.range i).map λ j=>ns.getD j 0) nd λ x hx=>by
  obtain⟨e,he,rfl⟩:=List.mem_map.mp hx;obtain⟨j,h1,h3⟩:=U.own e he;exact List.mem_map.mpr ⟨j,List.mem_range.mpr h1,by rw[List.getD_eq_getElem?_getD,h3];rfl⟩
 simpa using this
theorem tU.step {its:Array Value}{ns:List Int}{i:Nat}{xs xs':List (Int×Tok)}{n:Int}{t:Tok}(U:tU its ns i xs) (hr:ns[i]?=some n)
  (h:n∈xs.map (·.1)/\xs'=xs\/n∉xs.map (·.1)/\xs'.Perm (xs++[(n,t)])):tU its ns (i+1) xs':=by
 have eqi:∀ j:Nat,j<i+1->¬ j<i->j=i:=λ j a b=>by omega
 rcases h with ⟨hm,rfl⟩ | ⟨_,hp⟩
 .refine⟨λ e he=>?_,λ j r hj hrj=>?_⟩
  .obtain⟨j,h1,h2⟩:=U.own e he;exact⟨j,Nat.lt_succ_of_lt h1,h2⟩
  .by_cases q:j<i
   .exact U.all j r q hrj
   .rw[eqi j hj q,hr] at hrj;cases hrj;exact hm
 .refine⟨λ e he=>?_,λ j r hj hrj=>?_⟩
  .rcases List.mem_append.mp (hp.mem_iff.mp he) with q | q
   .obtain⟨j,h1,h2⟩:=U.own e q;exact⟨j,Nat.lt_succ_of_lt h1,h2⟩
   .cases List.mem_singleton.mp q;exact⟨i,Nat.lt_succ_self i,hr⟩
  .rw[(hp.map (·.1)).mem_iff,List.map_append];by_cases q:j<i
   .exact List.mem_append_left _ (U.all j r q hrj)
   .rw[eqi j hj q,hr] at hrj;cases hrj;exact List.mem_append_right _ zMc
def Nums (its:Array Value) (ns:List Int):Prop:=∀ (i:Nat) v,its[i]?=some v->∃ n t,v=.int n t/\ns[i]?=some n
section
variable {prog:Program}{w:World}{A:Around}{R:Result->Shared->Prop}{I:Addr}{fp wr:List Addr}{G:Array GenState->Array GenState->Prop}{n:Nat}{P:Nat->Value->Prop}{St:Nat->Shared->Prop}
theorem vP.keep {h h':Heap}{a:Addr}{xs:List (Int×Tok)}{led:Bool}(S:vP prog w h a xs led) (k:∀ o,h.get? a=some o->h'.get? a=some o):vP prog w h' a xs led:=
 let ⟨⟨es,ep,t,ho,r⟩,nd⟩:=S;⟨⟨es,ep,t,k _ ho,r⟩,nd⟩
theorem Tb (W:WalksS prog w A.in1 I fp wr G n (λ i v=>P i v) St) (Sa:Addr) (hSf:Sa∉fp) {its:Array Value}{ns:List Int}(hP:∀ i v,P i v->its[i]?=some v) (hn:n<70) (led:Bool) (hN:Nums its ns):
  ∀ (k i:Nat) (s:Shared) (xs:List (Int×Tok)),n-i=k->i<=n->St i s->vP prog w s.heap Sa xs led->tU its ns i xs->
   (∀ s' xs',Moved (Sa::wr) G s s'->vP prog w s'.heap Sa xs' led->tU its ns n xs'->R (.ok (.ret .none)) s')->
   codeAny (model prog w) A (.builtin "set.update.loop" ⟨[.ref Sa,.ref I],[]⟩) R s:=by
 have hSw:Sa∉wr:=λ z=>hSf (W.sub _ z);have more:∀ b∈wr,b∈Sa::wr:=λ b hb=>zMo _ hb;intro k
 induction k with
 | zero=>
  intro i s xs hk hi hst hS hU hR;have e:i=n:=by omega
  subst e;refine codeAny_builtin F.entry_set_update_loop ?_;rw[Around.under_plainId F.plain_set_update_loop _];show wpAny _ A.in1 (pyNext (.ref I) >>= _) _ _ s;exact zWb (W.done s _ _ hst λ s' hm=>wpAny_pure (hR s' xs (hm.mono more) (hS.keep λ o e=>hm.heap _ o hSw e) hU))
 | succ k ih=>
  intro i s xs hk hi hst hS hU hR;have hlt:i<n:=by omega
  refine codeAny_builtin F.entry_set_update_loop ?_;rw[Around.under_plainId F.plain_set_update_loop _];show wpAny _ A.in1 (pyNext (.ref I) >>= _) _ _ s;refine zWb (W.item i s _ _ hlt hst λ v s1 hPv hst1 hm=>?_);obtain⟨m,t,rfl,hr⟩:=hN i v (hP i v hPv);have S1:vP prog w s1.heap Sa xs led:=hS.keep λ o e=>hm.heap _ o hSw e;have hl:xs.length<70:=by have:=hU.len hS.nd;omega
  show wpAny _ A.in1 (holding [Value.int m t] (setAdd Sa (.int m t)) >>= _) _ _ s1;refine zWb (wpAny_holding ?_);unfold setAdd;refine wpAny_holding (zWb ((intKind prog w).pyHash (A:=A.in1) (k:=m) (o_.mpr rfl) ?_));refine add_int (s:={ s1 with toks:=s1.toks+1 }) (A:=A.in1) S1 hl λ h' xs' rr sb S' hx=>?_;have fr:=W.frame (i+1) s1 h' (s1.toks+1) hst1 (Nat.le_add_right _ _) λ c hc o e=>(sb.2 c (λ z:c=Sa=>hSf (z▸hc))).trans e;refine wpAny_pure ⟨plainId_quiet F.plain_set_update_loop _,ih (i+1) _ xs' (by omega) hlt fr S' (hU.step hr hx) λ s2 xs2 hm2 S2 U2=>?_⟩;refine hR s2 xs2 (Moved.trans W.gtrans ((hm.mono more).then_heap (Nat.le_add_right _ _) λ c o hc e=>?_) hm2) S2 U2;exact (sb.2 c (λ z=>hc (z▸zMc))).trans e
end
end ST
namespace ST
open PySem PySem.SetTable PyProof.Rows
section
variable {prog:Program}{w:World}{A:Around}{E:Value->Shared->Prop}{s:Shared}
theorem Xi {h:Heap}{a:Addr}(ho:h.get? a=some (xg w)):vP prog w h a [] (vA w):=
 ⟨⟨#[],0,_,ho,rfl,⟨.inl rfl,rfl,rfl,.nil,λ j hj=>(by cases hj),λ i g j hg=>(by cases hg)⟩,rfl,rfl,by show 0*5<7*3;omega⟩,.nil⟩
set_option maxRecDepth 100000 in
set_option maxHeartbeats 6400000 in
theorem RM {l:Addr}{its:Array Value}{ns:List Int}{Q:Value->Shared->Prop}(hh:A.handled=none) (hl:s.heap.IsList l its) (hT:Nums its ns) (hn:its.size<70)
  (h:∀ (h':Heap) (tk:Nat) xs,vP prog w h' s.heap.objs.size xs (vA w)->tU its ns its.size xs->(∀ b o,b<s.heap.objs.size->s.heap.get? b=some o->h'.get? b=some o)->Q (.ref s.heap.objs.size) { s with heap:=h',toks:=tk }):
  wpAny (model prog w) A (call (.type "set") [.ref l]) Q E s:=by
 obtain⟨c,tl,hmro⟩:=F.called_set.mro;have made:=F.called_set.made;have subm:=F.called_set.sub;refine wpAny_call (codeAny_of_tree ?_);show wpAny _ _ (callAny (.type "set") _) _ _ _;refine wpAny_pure ⟨Code.quiet_builtin _ (by decide +kernel),codeAny_builtin F.entry_type_call ?_⟩;rw[Around.under_plain (weight_type_call_type "set" [.ref l] []) rfl];have nt:=F.called_set.notType;have cc:=F.called_set.canCreate;have tc:=F.typeCall_set_1 (.ref l)
 repeat (any_goals (first | assumption | wp_step))
 refine codeAny_mono (aB (.ref l) (E:=E) (Q:=λ obj s₁=>obj=.ref s.heap.objs.size/\s₁={ s with heap:=s.heap.push (xg w) }) ⟨rfl,rfl⟩) λ r s₁ hr=>?_;cases r with
 | error e=>exact hr
 | ok fl=>
  cases fl with
  | ret obj=>
   obtain⟨rfl,rfl⟩:=hr;have hS:(s.heap.push (xg w)).get? s.heap.objs.size=some (xg w):=Heap.get?_push_size _ rfl;have hTy:Shared.TypeIs { s with heap:=s.heap.push (xg w) } (.ref s.heap.objs.size) "set":=⟨_,hS,rfl⟩
   have li:=F.called_set.init.lookup;have bi:=F.called_set.init.bind (.ref s.heap.objs.size)
   repeat (any_goals (first | assumption | wp_step))
   let s1:Shared:={ s with heap:=s.heap.push (xg w) }
   refine codeAny_mono (codeAny_call_builtin (R:=wants (λ r s₂=>r=.none/\∃ h' tk xs,s₂={ s with heap:=h',toks:=tk }/\vP prog w h' s.heap.objs.size xs (vA w)/\tU its ns its.size xs/\
     ∀ b o,b<s.heap.objs.size->s.heap.get? b=some o->h'.get? b=some o) E) F.called_set.init.plain F.entry_set_init (check_set_init_1 hTy ?_)) λ r₂ s₂ hr₂=>?_
   .obtain⟨⟨ocls,odict,odata,oslots⟩,hol,hcl,nl,hdl⟩:=id hl;simp only at hcl hdl;subst hcl hdl;have hol1:(s.heap.push (xg w)).get? l=some { cls:=.type "list",dict:=odict,data:=.seq its nl,slots:=oslots }:=zHp _ hol;have sls:=F.sub_list_set;have slf:=F.sub_list_frozenset;have nd:(Value.type "list" == Value.type "dict")=false:=by decide
    have hl1:(s.heap.push (xg w)).IsList l its:=⟨_,hol1,rfl,nl,rfl⟩
    unfold Builtin.«set.__init__» noKeywords Builtin.Frozenset.updateFrom;generalize hPI:pyIter=PI;unfold xg at *
    wp_walk
    subst hPI;refine wpAny_pyIter_list hl1 (zWb (wpAny_runValue ?_));have hlS:l<s.heap.objs.size:=Heap.lt_size hol;have hsz:(s.heap.push (xg w)).objs.size=s.heap.objs.size+1:=Heap.size_push _ _;have hneI:l≠(s.heap.push (xg w)).objs.size:=by rw[hsz];exact Nat.ne_of_lt (Nat.lt_succ_of_lt hlS)
    have szne:s.heap.objs.size≠(s.heap.push (xg w)).objs.size:=by rw[hsz];exact Nat.ne_of_lt (Nat.lt_succ_self _)
    have low:∀ b:Addr,b<s.heap.objs.size->b≠(s.heap.push (xg w)).objs.size:=λ b hb=>by rw[hsz];exact Nat.ne_of_lt (Nat.lt_succ_of_lt hb)
    refine Tb (A:=A.in1.in1) (P:=λ i v=>its[i]?=some v) ((Walks.list (A:=A.in1.in1.in1) (by simp[hh]) _ l hneI its).toS) s.heap.objs.size ?_ (its:=its) (ns:=ns) (λ _ _ q=>q) hn (vA w) hT its.size 0 _ [] (by omega) (Nat.zero_le _)
     ⟨⟨_,Heap.get?_push_size _ rfl,rfl,rfl⟩,hl1.push _⟩ (Xi (w:=w) (zHp _ hS)) ⟨λ e he=>(by cases he),λ j r hj=>(by omega)⟩ ?_
    .intro hm;rcases List.mem_cons.mp hm with q | q
     .exact szne q
     .exact Nat.ne_of_gt hlS (List.mem_singleton.mp q)
    .intro s' xs' hm S' U';obtain⟨h',g',d',tk',os'⟩:=s';obtain rfl:g'=s.gens:=hm.gens;obtain rfl:d'=s.drawn:=hm.drawn;obtain rfl:os'=s.os:=hm.os;refine wpAny_pure (wpAny_pure ⟨rfl,h',tk',xs',rfl,S',U',λ b o hb e=>?_⟩);refine hm.heap b o (λ q=>?_) (zHp _ (zHp _ e));rcases List.mem_cons.mp q with q | q
     .exact Nat.ne_of_lt hb q
     .exact low b hb (List.mem_singleton.mp q)
   .cases r₂ with
    | error e=>exact hr₂
    | ok fl₂=>
     cases fl₂ with
     | ret r=>
      obtain⟨rfl,h',tk,xs,rfl,g1,g2,g3⟩:=hr₂
      repeat (any_goals (first | assumption | wp_step))
      exact h h' tk xs g1 g2 g3
     | _=>exact hr₂.elim
  | _=>exact hr.elim
end
end ST
namespace L4
open PySem PyProof.Rows
theorem R5 {prog:Program}{w:World}{A:Around}{E:Value->Shared->Prop}{s:Shared}{vs:List Value}{ns:List Int}(hI:IntsAre vs ns) (h2:2<=vs.length) (h64:vs.length<64):
  Core prog w A E vs (λ out=>∃ ns',IntsAre out.toList ns'/\ns'.Perm ns/\ns'.Pairwise (·<=·)) s:=by
 obtain⟨v1,v2,rest,rfl⟩:∃ v1 v2 rest,vs=v1::v2::rest:=by
  match vs,h2 with
  | v1::v2::rest,_=>exact⟨v1,v2,rest,rfl⟩
 unfold Core;rw[keyKind_ints hI];refine wpAny_pure ⟨rfl,?_⟩;refine wpAny_mono (wpS_sortRuns (a₀:=pairsOf (v1::v2::rest)) (st:=SortSt.mk' oneType' ((v1::v2::rest).toArray.zip (v1::v2::rest).toArray) #[] 7 none)
   (Q:=λ _ st'=>(arrOf st').Perm (pairsOf (v1::v2::rest))/\failedOf st'=none/\SortedTo (arrOf st') (pairsOf (v1::v2::rest)).size)
   hI.intKeys ⟨Array.Perm.refl _,rfl,rfl,rfl⟩ (by rw[pairsOf_size];simp) (by rw[pairsOf_size];exact h64) λ st' a1 a2 a3=>⟨a1,a2,a3⟩) ?_ λ _ _ e=>e
 rintro⟨⟨⟩,st'⟩ s' ⟨rfl,hp,hf,hs⟩;exact⟨rfl,hf,sorted_out hI hp hs,by rw[hp.size_eq,pairsOf_size]⟩
end L4
namespace L5
open PySem PySem.Spec L2 L3
open PyProof.Rows hiding St
structure Bq (mg:Str->Option Value):Prop where
 set:mg "set"=none
 zip:mg "zip"=none
 enumerate:mg "enumerate"=none
section
variable {X:Cx}{K:PySem.W.Frag}{a b c e:Expr}{es:List Expr}{ta tb tc te:zC}{tA:y6}{pos p:Pos}{fa fb fc:Ev->Option T}
def pA (f g:yU) (ta tb tc:zC):zC:=fun δ S Q=>ta δ S λ x S1=>tb δ S1 λ y S2=>f x y S2 λ z S3=>match z with
 | .bl k=>if k=true then tc δ S3 λ w S4=>g y w S4 Q else Q (.bl false) S3
 | _=>False
theorem pA.mo {f g:yU}(hf:xP f) (hg:xP g) (ha:yo ta) (hb:yo tb) (hc:yo tc):yo (pA f g ta tb tc):=fun δ S Q Q' hq h=>
 ha δ S _ _ (λ x S1 h=>hb δ S1 _ _ (λ y S2 h=>hf x y S2 _ _ (λ z S3 h=>by
  cases z <;> first
   | exact vb (hc δ S3 _ _ λ w S4 h=>hg y w S4 _ _ hq h) (hq _ _) h
   | exact h) h) h) h
theorem Yv {f g:yU}{r r':R2}(hr:xJ K f r) (hr':xJ K g r') (hf:xP f) (hg:xP g) (ha:yo ta) (hb:yo tb) (hc:yo tc) {σ:St}{H:Hp}{Q:VK}(h:zO K (pA f g ta tb tc) σ H Q):eC r r' (zO K ta) (zO K tb) (zO K tc) σ H Q:=by
 obtain⟨δ,S,r1,r2,h⟩:=h;refine zO.go ha r1 r2 h λ x S1 v H1 h1 q1 e1 p1=>?_;refine zO.go hb (r1.ext e1) p1 h1 λ y S2 w H2 h2 q2 e2 p2=>?_;refine hr v w x y H2 S2 _ (zg.ext e2 x q1) q2 p2 (hf x y S2 _ _ (λ d S3 z v3 H3 q3 e3 p3=>?_) h2);cases d with
 | bl k=>
  simp only[zg] at q3;refine⟨k,q3,vb (λ z=>?_) (λ z=>?_) z⟩
  .refine zO.go hc (r1.ext ((e1.trans e2).trans e3)) p3 z λ w4 S4 v4 H4 h4 q4 e4 p4=>?_;exact hr' w v4 y w4 H4 S4 Q (zg.ext (e3.trans e4) y q2) q4 p4 (hg y w4 S4 _ _ (λ d S' z=>z.ext (((e1.trans e2).trans e3).trans e4)) h4)
  .exact z _ H3 (by simp only[zg]) ((e1.trans e2).trans e3) p3
 | zk=>exact z.elim
 | int _=>exact z.elim
 | str _=>exact z.elim
 | tup _=>exact z.elim
 | yO _=>exact z.elim
 | ref _=>exact z.elim
@[simp] noncomputable def aG (f g:T->T->Option T) (fa fb fc:Ev->Option T):Ev->Option T:=fun ρ=>(fa ρ).bind λ x=>(fb ρ).bind λ y=>(f x y).bind λ b=>match b with
 | .bl k=>if k=true then (fc ρ).bind λ z=>g y z else some (.bl false)
 | _=>none
theorem U3 {f g:T->T->Option T}{F G:yU}(hf:Good2 zM f F) (hg:Good2 zM g G) (ha:yA fa ta) (hb:yA fb tb) (hc:yA fc tc):xI (aG f g fa fb fc) (pA F G ta tb tc):=λ S Z δ ρ y Q hE e hq=>by
 obtain⟨x1,e1,e⟩:=zOb e;obtain⟨x2,e2,e⟩:=zOb e;obtain⟨b,e3,e⟩:=zOb e;refine ha S Z δ ρ x1 _ hE e1 λ d1 S1 s1 r1=>?_;refine hb S1 Z δ ρ x2 _ (hE.grow s1) e2 λ d2 S2 s2 r2=>?_;refine hf S2 Z x1 x2 b d1 d2 _ (hE.grow (s1.trans s2)).zd (Vw.grow r1 s2) r2 e3 λ c S3 s3 r3=>?_;split at e
 .have:=r3.1;simp only[Sn] at this;subst this;split at e
  .rename_i hk;obtain⟨x4,e4,e5⟩:=zOb e;dsimp only;rw[if_pos hk];refine hc S3 Z δ ρ x4 _ (hE.grow ((s1.trans s2).trans s3)) e4 λ d4 S4 s4 r4=>?_;exact hg S4 Z x2 x4 y d2 d4 Q (hE.grow (((s1.trans s2).trans s3).trans s4)).zd (Vw.grow r2 (s3.trans s4)) r4 e5 λ c' S5 s5 r5=>hq c' S5 ((((s1.trans s2).trans s3).trans s4).trans s5) (Cl.cl (((s1.trans s2).trans s3).trans s4) r5)
  .rename_i hk;dsimp only;rw[if_neg hk];cases e;exact hq _ S3 ((s1.trans s2).trans s3) (Cl.of (λ _=>nofun) wI)
 .cases e
theorem Vs {op op':CmpOp}{f g:yU}{r r':R2}(ho:yr X (compareOp op) r) (ho':yr X (compareOp op') r') (hr:xJ X.K f r) (hr':xJ X.K g r') (hf:xP f) (hg:xP g) (ha:PD X a ta) (hb:PD X b tb) (hc:PD X c tc)
  (hm:lastMarks [op,op'] [b,c]=false:=by with_unfolding_all rfl):PD X (.Compare a [op,op'] [b,c] pos) (pA f g ta tb tc):=
 ⟨pA.mo hf hg ha.mo hb.mo hc.mo,PE.imp (WJ ho ho' ha.pe hb.pe hc.pe hm) λ _ _ _ h=>Yv hr hr' hf hg ha.mo hb.mo hc.mo h⟩
end
end L5
namespace L2
open PySem PySem.Spec PyProof.Rows
section
variable {X:Cx}
theorem VB:yr X (compareOp .Is) (λ x y H Q=>∃ c d,x=.bl c/\y=.bl d/\Q (.bl (c == d)) H):=by
 intro pins s σ H x y v u Q I rx ry h;obtain⟨c,d,rfl,rfl,q⟩:=h;cases rx;cases ry;exact is_bool ⟨.bl _,H,I,rfl,q⟩
end
end L2
namespace L5
open PySem PySem.Spec L2 L3
open PyProof.Rows hiding St
section
variable {X:Cx}{K:PySem.W.Frag}{a b c e o i v:Expr}{es:List Expr}{ta tb tc te td ty tv:zC}{tA:y6}{pos p pos':Pos}{fa fb fc:Ev->Option T}
def vI:yU:=λ x y S Q=>match x,y with
 | .int i,.int j=>Q (.bl (decide (i<j))) S
 | .tup ds,.tup es=>∃ ns ms:List Int,ds=ns.map D.int/\es=ms.map D.int/\Q (.bl (HT.lexLt ns ms)) S
 | _,_=>False
noncomputable def wj:T->T->Option T
 | .int i,.int j=>some (.bl (decide (i<j)))
 | .tup ts,.tup us=>(uf ts).bind λ ns=>(uf us).map λ ms=>.bl (HT.lexLt ns ms)
 | _,_=>none
theorem vI.mo:xP vI:=λ x y S Q Q' hq h=>by
 unfold vI at h ⊢;split at h
 .exact hq _ _ h
 .obtain⟨ns,ms,h1,h2,h3⟩:=h;exact⟨ns,ms,h1,h2,hq _ _ h3⟩
 .exact h.elim
theorem vI.fits:xJ K vI (λ x y H Q=>wZ (λ i j=>.bl (decide (i<j))) x y H Q\/jY K x y H Q):=λ x y d e H S Q h1 h2 h3 h=>by
 unfold vI at h;split at h
 .simp only[zg] at h1 h2;exact .inl ⟨_,_,h1,h2,h _ H (by simp only[zg]) (.refl H) h3⟩
 .obtain⟨ns,ms,rfl,rfl,h⟩:=h;simp only[zg] at h1 h2;obtain⟨a,xs,rfl,g1,g2⟩:=h1;obtain⟨b,ys,rfl,g3,g4⟩:=h2;rw[g2.ints] at g1;rw[g4.ints] at g3;exact .inr ⟨a,b,ns,ms,rfl,rfl,g1,g3,h _ H (by simp only[zg]) (.refl H) h3⟩
 .exact h.elim
theorem nr:Good2 zM wj vI:=λ S Z x y z d e Q hz hx hy ef hq=>by
 unfold wj at ef;split at ef
 .cases ef;cases hx.int;cases hy.int;exact hq _ S (.refl S) (Cl.of (λ _=>nofun) wI)
 .obtain⟨ns,e1,e2⟩:=zOb ef;obtain⟨ms,e3,rfl⟩:=zOm e2;cases ng e1;cases ng e3;obtain⟨ds,rfl,h2⟩:=hx.tup;obtain⟨es,rfl,h4⟩:=hy.tup;exact⟨ns,ms,t8.mp h2,t8.mp h4,hq _ S (.refl S) (Cl.of (λ _=>nofun) wI)⟩
 .cases ef
theorem dZ {k:Nat}(hr:y9 k X.A):yr X (compareOp .Lt) (λ x y H Q=>wZ (λ i j=>.bl (decide (i<j))) x y H Q\/jY X.K x y H Q):=V9.or (V8 (by have:=hr.units;omega))
theorem Ve {k:Nat}(hr:y9 k X.A) (ha:PD X a ta) (hb:PD X b tb):PD X (.Compare a [.Lt] [b] pos) (yw vI ta tb):=iu (dZ hr) vI.fits vI.mo ha hb (uS _)
theorem lx {k:Nat}(hr:y9 k X.A) (ha:PD X a ta) (hb:PD X b tb):xN X (.Compare a [.Lt] [b] pos) (vL (yw vI ta tb)):=sJ (dZ hr) vI.fits vI.mo ha hb (uS _)
def uB (neg:Bool):yU:=λ x y S Q=>match x,y with
 | .bl c,.bl d=>Q (.bl (cond neg (c != d) (c == d))) S
 | x,.zk=>Q (.bl (cond neg (!qW x) (qW x))) S
 | _,_=>False
noncomputable def nc (neg:Bool):T->T->Option T
 | .bl c,.bl d=>some (.bl (cond neg (c != d) (c == d)))
 | x,.zk=>some (.bl (cond neg (!isNone x) (isNone x)))
 | _,_=>none
theorem uB.mo {neg:Bool}:xP (uB neg):=λ x y S Q Q' hq h=>by
 unfold uB at h ⊢;split at h
 .exact hq _ _ h
 .exact hq _ _ h
 .exact h.elim
theorem uB.fits:xJ K (uB false) (λ x y H Q=>(∃ c d,x=.bl c/\y=.bl d/\Q (.bl (c == d)) H)\/(y=.zk/\Q (.bl (decide (x=.zk))) H)):=λ x y d e H S Q h1 h2 h3 h=>by
 unfold uB at h;split at h
 .simp only[zg] at h1 h2;exact .inl ⟨_,_,h1,h2,h _ H (by simp only[zg,cond]) (.refl H) h3⟩
 .simp only[zg] at h2;refine .inr ⟨h2,?_⟩;rw[TK h1];exact h _ H (by simp only[zg,cond]) (.refl H) h3
 .exact h.elim
theorem TL {S:SS}{Z:Addr->Prop}{x:T}{d:D}(hx:Vw S Z x d):qW d=isNone x:=by
 cases x with
 | zk=>cases hx.zk;rfl
 | bl _=>cases hx.bl;rfl
 | int _=>cases hx.int;rfl
 | str _=>cases hx.str;rfl
 | tup _=>obtain⟨ds,rfl,_⟩:=hx.tup;rfl
 | lst _=>obtain⟨ds,rfl | ⟨a,rfl,h1⟩,h2⟩:=hx.lst <;> rfl
 | zY=>obtain⟨a,kvs,rfl,h1⟩:=hx.zY;rfl
theorem Sy {neg:Bool}:Good2 zM (nc neg) (uB neg):=λ S Z x y z d e Q hz hx hy ef hq=>by
 unfold nc at ef;split at ef
 .cases ef;cases hx.bl;cases hy.bl;exact hq _ S (.refl S) (Cl.of (λ _=>nofun) wI)
 .cases ef;cases hy.zk;have key:Q (.bl (cond neg (!qW d) (qW d))) S:=by
   rw[TL hx];exact hq _ S (.refl S) (Cl.of (λ _=>nofun) wI)
  unfold uB;cases d <;> exact key
 .cases ef
theorem WR (ha:PD X a ta) (hb:PD X b tb):xN X (.Compare a [.Is] [b] pos) (vL (yw (uB false) ta tb)):=sJ (VB.or VA) uB.fits uB.mo ha hb (uS _)
def av (td ty tv:zC):yP:=λ E δ S=>tv δ S λ v S1=>td δ S1 λ x S2=>ty δ S2 λ y S3=>∃ p ds k j,x=.ref p/\y=.int k/\S3 p=some (.lst ds)/\va ds.length k=some j/\E.nx δ (ups S3 p (.lst (ds.set j v)))
theorem zq.set {H:Hp}{d:D}{x:V}(h:zg K H d x):∀ {ds:List D}{xs:List V}(j:Nat),zq K H ds xs->zq K H (ds.set j d) (xs.set j x)
 | [],xs,j,r=>by simp only[zq] at r;subst r;exact .nil
 | c::ds,xs,0,r=>by
  simp only[zq] at r;obtain⟨y,ys,rfl,_,r2⟩:=r;exact .cons h r2
 | c::ds,xs,j+1,r=>by
  simp only[zq] at r;obtain⟨y,ys,rfl,r1,r2⟩:=r;exact .cons r1 (zq.set h j r2)
theorem WU (ho:PD X o td) (hi:PD X i ty) (hv:PD X v tv) (hs:swapsWithSole [.Subscript o i pos'] v pos.line X.env=pure false:=by rfl) (hw:swappedStores [.Subscript o i pos'] v X.env=pure none:=by rfl)
  (h1:(assignEach [.Subscript o i pos'] X.env).map (·.2)=[assign (.Subscript o i pos') X.env]:=by rfl)
  (ha:∀ v,assign (.Subscript o i pos') X.env v=(do
   let ov <- holding [v] (eval o X.env)
   let iv <- holding [v,ov] (eval i X.env)
   standAt pos'
   holding [v,ov,iv] (setItem ov iv v)
   release [v,ov,iv] []):=by intro _;rfl):vq X (.Assign [.Subscript o i pos'] v pos) (av td ty tv):=by
 refine⟨λ E E' δ S hE z=>hv.mo δ S _ _ (λ w S1 z=>ho.mo δ S1 _ _ (λ x S2 z=>hi.mo δ S2 _ _ (λ y S3 ⟨p,ds,k,j,a,b,c,d,h⟩=>⟨p,ds,k,j,a,b,c,d,hE.nx _ _ h⟩) z) z) z,PS.imp (dA hv.pe (Wt ho.pe hi.pe set_list ha) hs hw h1) λ D σ H hu=>?_⟩;obtain⟨δ,S,r1,r2,z⟩:=hu;refine zO.go hv.mo r1 r2 z λ w S1 w1 H1 h1 q1 e1 p1=>?_;refine zO.go ho.mo (r1.ext e1) p1 h1 λ x S2 w2 H2 h2 q2 e2 p2=>?_;refine zO.go hi.mo ((r1.ext e1).ext e2) p2 h2 λ y S3 w3 H3 h3 q3 e3 p3=>?_;obtain⟨p,ds,k,j,rfl,rfl,c1,c2,h⟩:=h3;simp only[zg] at q2 q3;subst q2 q3;obtain⟨xs,g1,g2⟩:=p3 _ _ c1;have e4:Ext H3 (upd H3 p (.lst (xs.set j w1))):=.lst g1 _;refine⟨p,xs,k,j,rfl,rfl,g1,by rw[<- g2.length];exact c2,?_⟩;exact h σ _ ((((r1.ext e1).ext e2).ext e3).ext e4) (((e1.trans e2).trans e3).trans e4) (p3.ups e4 ⟨_,yL,zq.ext e4 _ (zq.set (zg.ext (e2.trans e3) w q1) j g2)⟩)
@[simp] noncomputable def cC (n:Nat) (f v:Ev->Option T):Sm:=fun ρ=>(v ρ).bind λ z=>(f ρ).bind λ y=>match ρ[n]?,y with
 | some (some (.own (.lst ts))),.int k=>(va ts.length k).map λ j=>.nx (ρ.set n (some (.own (.lst (ts.set j z)))))
 | _,_=>none
theorem VP {R:Rk}(n:Nat) {f v:Ev->Option T}(hf:yA f ty) (hv:vt v tv):yv R (cC n f v) (av (y8 n) ty tv):=λ S0 Z0 S Z δ ρ o E F e P=>by
 obtain⟨z,e1,e⟩:=zOb e;obtain⟨x,e2,e3⟩:=zOb e;split at e3
 .rename_i ts k h;obtain⟨j,hj,rfl⟩:=zOm e3;refine hv S Z δ ρ z _ F.er e1 λ dz S1 s1 r1=>?_;have F1:=F.grow s1;obtain⟨p,ob,h1,h2,h3,h4⟩:=F1.er.ow n _ h;cases ob with
  | yg _=>exact h3.elim
  | lst ds=>
   show y8 n δ S1 _;unfold y8;rw[h1];refine hf S1 Z δ ρ _ _ F1.er e2 λ d S2 s2 r2=>?_;cases Vw.int r2;have h5:zo (zT S2 Z) ts ds:=zo.sx (wN s2) ts h3;exact⟨p,ds,k,j,rfl,rfl,s2 _ _ h2,by rw[h5.len];exact hj,P _ Z δ ((F1.grow s2).mut (us:=.lst (ts.set j z)) (es:=.lst (ds.set j dz)) n h h1 (h5.eT j (Sn.sx (wN s2) z r1)))⟩
 .cases e3
theorem Vl {x y:Str}{u:Value}(hm:X.mg x=some u) (r:RelV (.str y) u) (hg:Gl X x:=by rfl) (hd:(x == ("__debug__":Str))=false:=by decide):PD X (.Name x pos) (dC (.str y)):=oD (WD hg hm r hd) λ _=>by simp only[zg]
end
end L5
namespace ZP
open PySem PyProof.Rows
noncomputable def iY (k:Bool):String:=cond k "tuple_iterator" "list_iterator"
def SI (h:Heap) (k:Bool) (it l:Addr) (i:Nat):Prop:=∃ o,h.get? it=some o/\o.cls=.type (iY k)/\o.data=.fields #[.ref l,.int i 0]
def SQ (h:Heap) (k:Bool) (l:Addr) (xs:Array Value):Prop:=match k with
 | true=>h.IsTuple l xs
 | false=>h.IsList l xs
theorem SI.on {h h':Heap}{k:Bool}{it l:Addr}{i:Nat}(x:SI h k it l i) (f:∀ o,h.get? it=some o->h'.get? it=some o):SI h' k it l i:=
 let ⟨o,ho,r⟩:=x;⟨o,f o ho,r⟩
theorem SQ.on {h h':Heap}{k:Bool}{l:Addr}{xs:Array Value}(x:SQ h k l xs) (f:∀ o,h.get? l=some o->h'.get? l=some o):SQ h' k l xs:=by
 cases k with
 | true=>obtain⟨o,ho,r⟩:=(show h.IsTuple l xs from x);exact⟨o,f o ho,r⟩
 | false=>obtain⟨o,ho,r⟩:=(show h.IsList l xs from x);exact⟨o,f o ho,r⟩
theorem SQ.lt {h:Heap}{k:Bool}{l:Addr}{xs:Array Value}(x:SQ h k l xs):l<h.objs.size:=by
 cases k with
 | true=>obtain⟨o,ho,_⟩:=(show h.IsTuple l xs from x);exact Heap.lt_size ho
 | false=>obtain⟨o,ho,_⟩:=(show h.IsList l xs from x);exact Heap.lt_size ho
theorem SQ.cls {h:Heap}{k:Bool}{l:Addr}{xs:Array Value}(x:SQ h k l xs):∃ o,h.get? l=some o/\o.cls=.type (cond k "tuple" "list"):=by
 cases k with
 | true=>obtain⟨o,ho,c,_⟩:=(show h.IsTuple l xs from x);exact⟨o,ho,c⟩
 | false=>obtain⟨o,ho,c,_⟩:=(show h.IsList l xs from x);exact⟨o,ho,c⟩
section
variable {prog:Program}{w:World}{A:Around}{E:Value->Shared->Prop}{s:Shared}
theorem made {k:Bool}{l:Addr}{xs:Array Value}{Q:Value->Shared->Prop}(hl:SQ s.heap k l xs)
  (hQ:Q (.ref s.heap.objs.size) { s with heap:=s.heap.push { cls:=.type (iY k),data:=.fields #[.ref l,.int 0 0] } }):wpAny (model prog w) A (pyIter (.ref l)) Q E s:=by
 cases k with
 | true=>exact wpAny_pyIter_tuple hl hQ
 | false=>exact wpAny_pyIter_list hl hQ
theorem Rn {it l:Addr}{i:Nat}{xs:Array Value}{x:Value}{Q:Value->Shared->Prop}(hit:s.heap.IsTupleIter it l i) (hl:s.heap.IsTuple l xs) (hx:xs[i]?=some x)
  (hQ:∀ h',h'.IsTupleIter it l (i+1)->Heap.SameBut it s.heap h'->Q x { s with heap:=h' }):wpAny (model prog w) A (Builtin.SmallTypes.nextOf (.ref it)) Q E s:=by
 have ht:=hit.typeIs;obtain⟨oi,e1,e2,e3⟩:=id hit;obtain⟨ol,g1,_,n,g2⟩:=hl;refine zWb (wpAny_callSpecial?_slot (name:=Str.ofString "__next__") ht F.slot_tuple_iterator_next (wpAny_call_entry F.slot_tuple_iterator_next ht F.entry_tuple_iterator_next ?_ (F.args_tuple_iterator_next_1 _)));refine zWb (m:=field (.ref it) 0) (wpAny_field e1 e3 (x:=.ref l) rfl ?_);dsimp only;rw[if_neg (show ¬ ((Value.ref l == Value.none)=true) from Bool.false_ne_true)];refine zWb (m:=field (.ref it) 1) (wpAny_field e1 e3 (x:=.int i 0) rfl ?_);dsimp only;refine zWb (m:=seqItems? (.ref l)) (wpAny_seqItems g1 g2 ?_);simp only[Int.toNat_natCast,hx];have there:=Heap.get?_update_self (Obj.mapFields λ y=>y.setIfInBounds 1 (rawInt ((i:Int)+1))) e1 (Obj.isFreed_of_fields (Obj.data_mapFields e3 _));refine zWb (wpAny_setField e1 e3 (by simp) (wpAny_pure ⟨x,rfl,wpAny_pure (hQ _ ⟨_,there,(Obj.cls_mapFields ..).trans e2,?_⟩ (Heap.SameBut.update ..))⟩));rw[Obj.data_mapFields e3];simp[rawInt]
theorem Rc {it l:Addr}{i:Nat}{xs:Array Value}{Q:Value->Shared->Prop}(hh:A.handled=none) (hit:s.heap.IsTupleIter it l i) (hl:s.heap.IsTuple l xs) (hx:xs[i]?=none)
  (hE:∀ h' e,Heap.ExtBut it s.heap h'->(∃ o,h'.get? e=some o/\o.cls=.type "StopIteration")->E (.ref e) { s with heap:=h' }):wpAny (model prog w) A (Builtin.SmallTypes.nextOf (.ref it)) Q E s:=by
 have ht:=hit.typeIs;obtain⟨oi,e1,e2,e3⟩:=id hit;obtain⟨ol,g1,_,n,g2⟩:=hl;refine zWb (wpAny_callSpecial?_slot (name:=Str.ofString "__next__") ht F.slot_tuple_iterator_next (wpAny_call_entry F.slot_tuple_iterator_next ht F.entry_tuple_iterator_next ?_ (F.args_tuple_iterator_next_1 _)));refine zWb (m:=field (.ref it) 0) (wpAny_field e1 e3 (x:=.ref l) rfl ?_);dsimp only;rw[if_neg (show ¬ ((Value.ref l == Value.none)=true) from Bool.false_ne_true)];refine zWb (m:=field (.ref it) 1) (wpAny_field e1 e3 (x:=.int i 0) rfl ?_);dsimp only;refine zWb (m:=seqItems? (.ref l)) (wpAny_seqItems g1 g2 ?_);simp only[Int.toNat_natCast,hx];refine zWb (wpAny_rule (zWb (wpAny_setField e1 e3 (by simp) ?_)));refine zWb (m:=newExc (.type "StopIteration") []) ?_;simp only[newExc,newTuple];refine zWb (wpAny_newObj_type (zWb (m:=firstArgMember _ _) (wpAny_of_eq (a:=Value.none) (by first | rfl | (simp only[firstArgMember];rfl)) (wpAny_newObj_type ?_ (by size_fits)))) (by size_fits));simp only[raiseNew];refine zWb (wpAny_handled ?_);rw[show A.in1.handled=none from hh];exact zWb (wpAny_pure (wpAny_throw (hE _ _ (((Heap.SameBut.update ..).extBut.push _).push _) ⟨_,Heap.get?_push_size _ rfl,rfl⟩)))
theorem draw {k:Bool}{it l:Addr}{i:Nat}{xs:Array Value}{x:Value}{Q:Value->Shared->Prop}(hit:SI s.heap k it l i) (hl:SQ s.heap k l xs) (hx:xs[i]?=some x)
  (hQ:∀ h',SI h' k it l (i+1)->Heap.SameBut it s.heap h'->Q x { s with heap:=h' }):wpAny (model prog w) A (Builtin.SmallTypes.nextOf (.ref it)) Q E s:=by
 cases k with
 | true=>exact Rn hit hl hx hQ
 | false=>exact wpAny_nextOf_list_item hit hl hx hQ
theorem kh {k:Bool}{it l:Addr}{i:Nat}{xs:Array Value}{Q:Value->Shared->Prop}(hh:A.handled=none) (hit:SI s.heap k it l i) (hl:SQ s.heap k l xs) (hx:xs[i]?=none)
  (hE:∀ h' e,Heap.ExtBut it s.heap h'->(∃ o,h'.get? e=some o/\o.cls=.type "StopIteration")->E (.ref e) { s with heap:=h' }):wpAny (model prog w) A (Builtin.SmallTypes.nextOf (.ref it)) Q E s:=by
 cases k with
 | true=>exact Rc hh hit hl hx hE
 | false=>exact wpAny_nextOf_list_end hh hit hl hx hE
structure kO (z TI TO i1 i2 l1 l2:Addr):Prop where
 nd:[z,TI,TO,i1,i2].Nodup
 f1:l1∉[z,TI,TO,i1,i2]
 f2:l2∉[z,TI,TO,i1,i2]
structure At (h:Heap) (k1 k2:Bool) (z TI TO i1 i2 l1 l2:Addr) (f0:Value) (n:Nat):Prop where
 z:IsZip h z TI TO f0
 ti:IsPair h TI (.ref i1) (.ref i2)
 to:∃ a b,IsPair h TO a b
 s1:SI h k1 i1 l1 n
 s2:SI h k2 i2 l2 n
theorem At.keep {h h':Heap}{k1 k2:Bool}{z TI TO i1 i2 l1 l2:Addr}{f0:Value}{n:Nat}(S:At h k1 k2 z TI TO i1 i2 l1 l2 f0 n) (f:∀ b∈[z,TI,TO,i1,i2],∀ o,h.get? b=some o->h'.get? b=some o):At h' k1 k2 z TI TO i1 i2 l1 l2 f0 n:=
 ⟨f z (by simp) _ S.z,f TI (by simp) _ S.ti,let ⟨a,b,e⟩:=S.to;⟨a,b,f TO (by simp) _ e⟩,S.s1.on (f i1 (by simp)),S.s2.on (f i2 (by simp))⟩
theorem item {k1 k2:Bool}{z TI TO i1 i2 l1 l2:Addr}{n:Nat}{xs ys:Array Value}{x y:Value}{Q:Option Value->Shared->Prop}(D:kO z TI TO i1 i2 l1 l2) (S:At s.heap k1 k2 z TI TO i1 i2 l1 l2 .none n)
  (h1:SQ s.heap k1 l1 xs) (h2:SQ s.heap k2 l2 ys) (hx:xs[n]?=some x) (hy:ys[n]?=some y)
  (hQ:∀ h',At h' k1 k2 z TI TO i1 i2 l1 l2 (rawInt s.heap.objs.size) (n+1)->IsPair h' s.heap.objs.size x y->(∀ c o,c∉[z,TI,TO,i1,i2]->s.heap.get? c=some o->h'.get? c=some o)->Q (some (.ref s.heap.objs.size)) { s with heap:=h' }):
  wpAny (model prog w) A (pyNext (.ref z)) Q E s:=by
 obtain⟨nd,f1,f2⟩:=D;simp only[List.nodup_cons,List.mem_cons,List.not_mem_nil,or_false,not_or,List.nodup_nil,and_true,not_false_eq_true] at nd f1 f2;obtain⟨⟨n1,n2,n3,n4⟩,⟨n5,n6,n7⟩,⟨n8,n9⟩,n10⟩:=nd;obtain⟨a1,a2,a3,a4,a5⟩:=f1;obtain⟨b1,b2,b3,b4,b5⟩:=f2;obtain⟨hz,hti,⟨a,b,hto⟩,s1,s2⟩:=S;have hT:s.TypeIs (.ref z) "zip":=⟨_,hz,rfl⟩
 unfold pyNext;refine zWb (wpAny_attempt (wpAny_callSpecial?_slot (name:=Str.ofString "__next__") hT F.slot_zip_next (wpAny_call_entry F.slot_zip_next hT F.entry_zip_next ?_ (F.args_zip_next_1 _))));refine zWb (m:=field (.ref z) 2) (wpAny_field hz rfl (x:=.bool false) rfl ?_);refine zWb (m:=field (.ref z) 3) (wpAny_field hz rfl (x:=.ref TI) rfl ?_);refine zWb (m:=seqItems? (.ref TI)) (wpAny_seqItems hti rfl ?_);refine zWb (m:=Builtin.SmallTypes.ownedTupleIsFree (.ref z)) (zWb (m:=field (.ref z) 0) (wpAny_field hz rfl (x:=.none) rfl (wpAny_pure ?_)));simp only[if_true];refine zWb (wpAny_rule (zWb (wpAny_field hz rfl (x:=.ref TO) rfl (zWb (wpAny_setField_rec hz (by simp) λ g1 hz1 e1=>?_)))));replace hz1:IsZip g1 z TI TO .ellipsis:=hz1;refine zWb ?_;simp only[List.zipIdx_cons,List.zipIdx_nil,List.forIn_cons,List.forIn_nil];refine zWb (zWb (wpAny_onRaise (zWb (m:=Builtin.SmallTypes.nextOf (.ref i1)) (draw (s1.on λ o q=>e1.extBut _ _ (Ne.symm n3) q) (h1.on λ o q=>e1.extBut _ _ a1 q) hx λ g2 s12 e2=>wpAny_pure ?_))));have to2:IsPair g2 TO a b:=e2.extBut _ _ n8 (e1.extBut _ _ (Ne.symm n2) hto);refine zWb (wpAny_seqItems to2 rfl (zWb (wpAny_updateSeq_pair to2 λ g3 to3 e3=>zWb (wpAny_letGo (wpAny_pure ?_)))));replace to3:IsPair g3 TO x b:=to3;have up:∀ c o,c≠z->c≠i1->c≠TO->s.heap.get? c=some o->g3.get? c=some o:=λ c o c1 c2 c3 q=>e3.extBut _ _ c3 (e2.extBut _ _ c2 (e1.extBut _ _ c1 q));refine zWb (zWb (wpAny_onRaise (zWb (m:=Builtin.SmallTypes.nextOf (.ref i2)) (draw (s2.on λ o q=>up _ o (Ne.symm n4) (Ne.symm n10) (Ne.symm n9) q) (h2.on λ o q=>up _ o b1 b4 b3 q) hy λ g4 s24 e4=>wpAny_pure ?_))));have to4:IsPair g4 TO x b:=e4.extBut _ _ n9 to3;refine zWb (wpAny_seqItems to4 rfl (zWb (wpAny_updateSeq_pair to4 λ g5 to5 e5=>zWb (wpAny_letGo (wpAny_pure (wpAny_pure ?_))))));replace to5:IsPair g5 TO x y:=to5;refine zWb (wpAny_seqItems to5 rfl (zWb (wpAny_newTuple ?_)));have sz:g5.objs.size=s.heap.objs.size:=by rw[e5.1,e4.1,e3.1,e2.1,e1.1]
 have hz5:IsZip g5 z TI TO .ellipsis:=e5.extBut _ _ n2 (e4.extBut _ _ n4 (e3.extBut _ _ n2 (e2.extBut _ _ n3 hz1)));have up5:∀ c o,c∉[z,TI,TO,i1,i2]->s.heap.get? c=some o->g5.get? c=some o:=λ c o hc q=>by
  simp only[List.mem_cons,List.not_mem_nil,or_false,not_or] at hc;exact e5.extBut _ _ hc.2.2.1 (e4.extBut _ _ hc.2.2.2.2 (up c o hc.1 hc.2.2.2.1 hc.2.2.1 q))
 have ti5:IsPair g5 TI (.ref i1) (.ref i2):=e5.extBut _ _ n5 (e4.extBut _ _ n7 (up _ _ (Ne.symm n1) n6 n5 hti));have s15:SI g5 k1 i1 l1 (n+1):=s12.on λ o q=>e5.extBut _ _ (Ne.symm n8) (e4.extBut _ _ n10 (e3.extBut _ _ (Ne.symm n8) q));have s25:SI g5 k2 i2 l2 (n+1):=s24.on λ o q=>e5.extBut _ _ (Ne.symm n9) q;have lz:z<g5.objs.size:=Heap.lt_size hz5;refine zWb (m:=Builtin.SmallTypes.ownedTupleHandOut (.ref z) (.ref g5.objs.size)) ?_;have hz6:IsZip (g5.push { cls:=.type "tuple",data:=.seq #[x,y] }) z TI TO .ellipsis:=zHp _ hz5;refine zWb (wpAny_setField_rec hz6 (by simp) λ g7 hz7 e7=>?_);replace hz7:IsZip g7 z TI TO (rawInt g5.objs.size):=hz7;refine wpAny_setField_rec hz7 (by simp) λ g8 hz8 e8=>?_;replace hz8:IsZip g8 z TI TO (rawInt g5.objs.size):=hz8;have up8:∀ c o,c≠z->(g5.push { cls:=.type "tuple",data:=.seq #[x,y] }).get? c=some o->g8.get? c=some o:=λ c o c1 q=>e8.extBut _ _ c1 (e7.extBut _ _ c1 q);have T8:IsPair g8 g5.objs.size x y:=up8 _ _ (Nat.ne_of_gt lz) (Heap.get?_push_size _ rfl);have up9:∀ c o,c≠z->g5.get? c=some o->g8.get? c=some o:=λ c o c1 q=>up8 c o c1 (zHp _ q);rw[sz] at hz8 T8;refine wpAny_pure ⟨.ref g5.objs.size,rfl,wpAny_pure ?_⟩;show Q (some (.ref g5.objs.size)) _;rw[sz];refine hQ g8 ⟨hz8,up9 _ _ (Ne.symm n1) ti5,⟨x,y,up9 _ _ (Ne.symm n2) to5⟩,s15.on λ o q=>up9 _ o (Ne.symm n3) q,s25.on λ o q=>up9 _ o (Ne.symm n4) q⟩ T8 λ c o hc q=>up9 c o (λ e=>hc (by simp[e])) (up5 c o hc q)
theorem stop {k1 k2:Bool}{z TI TO i1 i2 l1 l2:Addr}{n:Nat}{xs ys:Array Value}{Q:Option Value->Shared->Prop}(hh:A.handled=none) (D:kO z TI TO i1 i2 l1 l2) (S:At s.heap k1 k2 z TI TO i1 i2 l1 l2 .none n)
  (h1:SQ s.heap k1 l1 xs) (h2:SQ s.heap k2 l2 ys) (hend:xs[n]?=none\/ys[n]?=none)
  (hQ:∀ h',(∀ c o,c∉[z,TI,TO,i1,i2]->s.heap.get? c=some o->h'.get? c=some o)->Q none { s with heap:=h' }):
  wpAny (model prog w) A (pyNext (.ref z)) Q E s:=by
 obtain⟨nd,f1,f2⟩:=D;simp only[List.nodup_cons,List.mem_cons,List.not_mem_nil,or_false,not_or,List.nodup_nil,and_true,not_false_eq_true] at nd f1 f2;obtain⟨⟨n1,n2,n3,n4⟩,⟨n5,n6,n7⟩,⟨n8,n9⟩,n10⟩:=nd;obtain⟨a1,a2,a3,a4,a5⟩:=f1;obtain⟨b1,b2,b3,b4,b5⟩:=f2;obtain⟨hz,hti,⟨a,b,hto⟩,s1,s2⟩:=S;have hT:s.TypeIs (.ref z) "zip":=⟨_,hz,rfl⟩
 have fin:∀ (h':Heap) (e:Addr),(∀ c o,c∉[z,TI,TO,i1,i2]->s.heap.get? c=some o->h'.get? c=some o)->(∃ o,h'.get? e=some o/\o.cls=.type "StopIteration")->
   wpAny (model prog w) A (do if <- isInstance (.ref e) (.type "StopIteration") then pure none else throw (.ref e)) Q E { s with heap:=h' }:=λ h' e k1 k2=>by
  obtain⟨o,ho,hc⟩:=k2;exact zWb (wpAny_isInstance (T:="StopIteration") (b:=true) ⟨o,ho,hc⟩ isSubtype_stop (wpAny_pure (hQ _ k1)))
 unfold pyNext;refine zWb (wpAny_attempt (wpAny_callSpecial?_slot (name:=Str.ofString "__next__") hT F.slot_zip_next (wpAny_call_entry F.slot_zip_next hT F.entry_zip_next ?_ (F.args_zip_next_1 _))));refine zWb (m:=field (.ref z) 2) (wpAny_field hz rfl (x:=.bool false) rfl ?_);refine zWb (m:=field (.ref z) 3) (wpAny_field hz rfl (x:=.ref TI) rfl ?_);refine zWb (m:=seqItems? (.ref TI)) (wpAny_seqItems hti rfl ?_);refine zWb (m:=Builtin.SmallTypes.ownedTupleIsFree (.ref z)) (zWb (m:=field (.ref z) 0) (wpAny_field hz rfl (x:=.none) rfl (wpAny_pure ?_)));simp only[if_true];refine zWb (wpAny_rule (zWb (wpAny_field hz rfl (x:=.ref TO) rfl (zWb (wpAny_setField_rec hz (by simp) λ g1 hz1 e1=>?_)))));replace hz1:IsZip g1 z TI TO .ellipsis:=hz1;refine zWb ?_;simp only[List.zipIdx_cons,List.zipIdx_nil,List.forIn_cons,List.forIn_nil];cases hx:xs[n]? with
 | none=>
  refine zWb (zWb (wpAny_onRaise (zWb (m:=Builtin.SmallTypes.nextOf (.ref i1)) (kh hh (s1.on λ o q=>e1.extBut _ _ (Ne.symm n3) q) (h1.on λ o q=>e1.extBut _ _ a1 q) hx λ g2 ex e2 he=>?_))));have hz2:IsZip g2 z TI TO .ellipsis:=e2 _ _ n3 hz1;obtain⟨oe,q1,q2⟩:=he;have ne:ex≠z:=λ q=>by subst q;rw[hz2] at q1;cases q1;simp at q2
  refine wpAny_setField_rec hz2 (by simp) λ g3 _ e3=>fin g3 ex (λ c o hc q=>?_) ⟨oe,e3.extBut _ _ ne q1,q2⟩;simp only[List.mem_cons,List.not_mem_nil,or_false,not_or] at hc;exact e3.extBut _ _ hc.1 (e2 _ _ hc.2.2.2.1 (e1.extBut _ _ hc.1 q))
 | some x=>
  have hy:ys[n]?=none:=hend.resolve_left (by rw[hx];simp);refine zWb (zWb (wpAny_onRaise (zWb (m:=Builtin.SmallTypes.nextOf (.ref i1)) (draw (s1.on λ o q=>e1.extBut _ _ (Ne.symm n3) q) (h1.on λ o q=>e1.extBut _ _ a1 q) hx λ g2 s12 e2=>wpAny_pure ?_))));have to2:IsPair g2 TO a b:=e2.extBut _ _ n8 (e1.extBut _ _ (Ne.symm n2) hto);refine zWb (wpAny_seqItems to2 rfl (zWb (wpAny_updateSeq_pair to2 λ g3 to3 e3=>zWb (wpAny_letGo (wpAny_pure ?_)))));have up:∀ c o,c≠z->c≠i1->c≠TO->s.heap.get? c=some o->g3.get? c=some o:=λ c o c1 c2 c3 q=>e3.extBut _ _ c3 (e2.extBut _ _ c2 (e1.extBut _ _ c1 q));refine zWb (zWb (wpAny_onRaise (zWb (m:=Builtin.SmallTypes.nextOf (.ref i2)) (kh hh (s2.on λ o q=>up _ o (Ne.symm n4) (Ne.symm n10) (Ne.symm n9) q) (h2.on λ o q=>up _ o b1 b4 b3 q) hy λ g4 ex e4 he=>?_))));have hz4:IsZip g4 z TI TO .ellipsis:=e4 _ _ n4 (e3.extBut _ _ n2 (e2.extBut _ _ n3 hz1));obtain⟨oe,q1,q2⟩:=he;have ne:ex≠z:=λ q=>by subst q;rw[hz4] at q1;cases q1;simp at q2
  refine wpAny_setField_rec hz4 (by simp) λ g5 _ e5=>fin g5 ex (λ c o hc q=>?_) ⟨oe,e5.extBut _ _ ne q1,q2⟩;simp only[List.mem_cons,List.not_mem_nil,or_false,not_or] at hc;exact e5.extBut _ _ hc.1 (e4 _ _ hc.2.2.2.2 (up c o hc.1 hc.2.2.2.1 hc.2.2.1 q))
end
end ZP
namespace ZP
open PySem PyProof.Rows
abbrev vC (k:Bool) (l:Addr):Obj:={ cls:=.type (iY k),data:=.fields #[.ref l,.int 0 0] }
abbrev qZ (k1 k2:Bool) (h:Heap) (l1 l2:Addr):Heap:=(h.push (vC k1 l1)).push (vC k2 l2)
abbrev lV (k1 k2:Bool) (h:Heap) (l1 l2:Addr):Heap:=(qZ k1 k2 h l1 l2).push { cls:=.type "tuple",data:=.seq #[.ref h.objs.size,.ref (h.push (vC k1 l1)).objs.size] }
abbrev lU (k1 k2:Bool) (h:Heap) (l1 l2:Addr):Heap:=(lV k1 k2 h l1 l2).push { cls:=.type "tuple",data:=.seq #[.none,.none] }
abbrev qY (k1 k2:Bool) (h:Heap) (l1 l2:Addr):Heap:=(lU k1 k2 h l1 l2).push { cls:=.type "zip",data:=.fields #[.none,.bool false,.bool false,.ref (qZ k1 k2 h l1 l2).objs.size,.ref (lV k1 k2 h l1 l2).objs.size] }
theorem UW (k1 k2:Bool) (l1 l2:Addr) (xs ys:Array Value):Meets (Builtin.«zip.__new__» ⟨[.type "zip",.ref l1,.ref l2],[]⟩) (λ _ R s=>SQ s.heap k1 l1 xs/\SQ s.heap k2 l2 ys/\
   R (.ok (.ret (.ref (lU k1 k2 s.heap l1 l2).objs.size))) { s with heap:=qY k1 k2 s.heap l1 l2 }):=
 .of_wp λ prog w A R s h=>by
  obtain⟨hp,g,d,tk,os⟩:=s;obtain⟨q1,q2,h⟩:=h;have hsub:=sub_zip;have m1:SQ (Shared.heap ⟨hp,g,d,tk,os⟩) k1 l1 xs:=q1;have m2:SQ (Shared.heap ⟨hp.push (vC k1 l1),g,d,tk,os⟩) k2 l2 ys:=q2.on λ o e=>zHp _ e
  wp_walk using made m1,made m2
  exact⟨_,rfl,h⟩
section
variable {prog:Program}{w:World}{A:Around}{E:Value->Shared->Prop}{s:Shared}
theorem new {k1 k2:Bool}{l1 l2:Addr}{xs ys:Array Value}{Q:Value->Shared->Prop}(h1:SQ s.heap k1 l1 xs) (h2:SQ s.heap k2 l2 ys)
  (h:∀ h' z TI TO i1 i2,(∀ b∈[z,TI,TO,i1,i2],s.heap.objs.size<=b)->kO z TI TO i1 i2 l1 l2->At h' k1 k2 z TI TO i1 i2 l1 l2 .none 0->(∀ c o,s.heap.get? c=some o->h'.get? c=some o)->Q (.ref z) { s with heap:=h' }):
  wpAny (model prog w) A (call (.type "zip") [.ref l1,.ref l2]) Q E s:=by
 refine callType_new F.called_zip (by decide) (F.typeCall_zip_2 _ _) (F.newCall_zip_2 _ _) (λ obj=>F.args_object_init_3 obj _ _) F.entry_zip_new (UW k1 k2 l1 l2 xs ys) ⟨h1,h2,?_⟩;have z1:(s.heap.push (vC k1 l1)).objs.size=s.heap.objs.size+1:=Heap.size_push ..;have z2:(qZ k1 k2 s.heap l1 l2).objs.size=s.heap.objs.size+2:=by rw[Heap.size_push,z1]
 have z3:(lV k1 k2 s.heap l1 l2).objs.size=s.heap.objs.size+3:=by rw[Heap.size_push,z2]
 have z4:(lU k1 k2 s.heap l1 l2).objs.size=s.heap.objs.size+4:=by rw[Heap.size_push,z3]
 have p1:∀ (h:Heap) (o:Obj),o.isFreed=false->(h.push o).get? h.objs.size=some o:=λ h o e=>Heap.get?_push_size _ e;have u:∀ {h:Heap}{b:Addr}{o:Obj}(o':Obj),h.get? b=some o->(h.push o').get? b=some o:=λ o' e=>zHp _ e;have g5:(qY k1 k2 s.heap l1 l2).get? (lU k1 k2 s.heap l1 l2).objs.size=some _:=p1 _ _ rfl;have g4:(qY k1 k2 s.heap l1 l2).get? (lV k1 k2 s.heap l1 l2).objs.size=some _:=u _ (p1 _ _ rfl);have g3:(qY k1 k2 s.heap l1 l2).get? (qZ k1 k2 s.heap l1 l2).objs.size=some _:=u _ (u _ (p1 _ _ rfl));have g2:(qY k1 k2 s.heap l1 l2).get? (s.heap.push (vC k1 l1)).objs.size=some (vC k2 l2):=u _ (u _ (u _ (p1 _ _ rfl)));have g1:(qY k1 k2 s.heap l1 l2).get? s.heap.objs.size=some (vC k1 l1):=u _ (u _ (u _ (u _ (p1 _ _ rfl))));have a1:=h1.lt;have a2:=h2.lt;rw[z2,z3,z4] at g5;rw[z1,z2] at g3;rw[z3] at g4;rw[z1] at g2;generalize hN:s.heap.objs.size=N at *;have lt:∀ {m:Nat},m<N->∀ j:Nat,¬ m=N+j:=λ hm j=>by omega
 have ne:∀ {i j:Nat},i≠j->¬ (N+i=N+j):=λ hij e=>hij (by omega);show _/\_;rw[z4];refine⟨⟨_,g5,rfl⟩,h _ (N+4) (N+2) (N+3) N (N+1) (λ b hb=>?_) ⟨?_,?_,?_⟩ ⟨g5,g3,⟨_,_,g4⟩,⟨_,g1,rfl,rfl⟩,⟨_,g2,rfl,rfl⟩⟩ λ c o e=>u _ (u _ (u _ (u _ (u _ e))))⟩
 .simp only[List.mem_cons,List.not_mem_nil,or_false] at hb;have h0:N<=N:=Nat.le_refl N;rcases hb with e | e | e | e | e <;> subst e
  .exact Nat.le_add_right N 4
  .exact Nat.le_add_right N 2
  .exact Nat.le_add_right N 3
  .exact h0
  .exact Nat.le_add_right N 1
 .have e0:∀ {i:Nat},i≠0->¬ (N+i=N):=λ hi e=>hi (by omega);have e0':∀ {i:Nat},i≠0->¬ (N=N+i):=λ hi e=>hi (by omega);simp only[List.nodup_cons,List.mem_cons,List.not_mem_nil,or_false,not_or,List.nodup_nil,and_true,not_false_eq_true];exact⟨⟨ne (by decide),ne (by decide),e0 (by decide),ne (by decide)⟩,⟨ne (by decide),e0 (by decide),ne (by decide)⟩,⟨e0 (by decide),ne (by decide)⟩,e0' (by decide)⟩
 .simp only[List.mem_cons,List.not_mem_nil,or_false,not_or];exact⟨lt a1 4,lt a1 2,lt a1 3,Nat.ne_of_lt a1,lt a1 1⟩
 .simp only[List.mem_cons,List.not_mem_nil,or_false,not_or];exact⟨lt a2 4,lt a2 2,lt a2 3,Nat.ne_of_lt a2,lt a2 1⟩
end
end ZP
namespace L2
open PySem PySem.Spec PyProof.Rows ZP
section
variable {X:Cx}{pins:List (Addr×Obj)}{σ:St}{H:Hp}{s:Shared}
theorem Inv.mO {h':Heap}{t':Nat}{fp:List Addr}(I:Inv X pins σ H s) (k:∀ b o,b∉fp->s.heap.get? b=some o->h'.get? b=some o) (hf:∀ b∈fp,vT X pins H b):Inv X pins σ H { s with heap:=h',toks:=t' }:=by
 have nit:∀ b u,H b=some u->b∉fp:=λ b u e z=>by rw[(hf b z).1] at e;cases e
 refine I.step (g':=s.gens) (d':=s.drawn) (ch:=fp) (λ b hb=>?_) (λ b o _ _ hc e _=>k b o hc e) (λ b o _ _ hc e _=>⟨o.slots,k b o hc e⟩) (λ _ _ _ _ n=>n)
  (λ b o hc e=>⟨o,k b o hc e⟩) (λ _ _ e=>e) (λ _ _ _ e=>e) (λ b ps e=>⟨#[],by rw[e];simp⟩) (λ m hm=>?_) (λ b u e=>?_) I.bare
 .obtain⟨_,q1,_,q2,q3,q4⟩:=hf b hb;exact⟨q2,q1,q3,q4⟩
 .obtain⟨o,es,ep,ho,r⟩:=hm;exact⟨o,es,ep,k _ o (λ z=>(hf _ z).2.1 rfl) ho,r⟩
 .refine (I.zE b u e).t5 (λ c v hc q=>k c v ?_ q) (λ _ q=>q) λ _ _ q=>q;rcases hc with z | z
  .rw[z];exact nit b u e
  .exact nit c _ z
def wx (K:PySem.W.Frag) (H:Hp) (k:Bool) (a:Addr) (xs:List V):Prop:=match k with
 | true=>yb K H a xs
 | false=>zQ K H a xs
theorem wx.of (I:Inv X pins σ H s) {k:Bool}{a:Addr}{xs:List V}(h:wx X.K H k a xs):∃ its:List Value,Vals xs its/\SQ s.heap k a its.toArray:=by
 cases k with
 | true=>obtain⟨its,rv,p,_⟩:=I.tuple h;exact⟨its,rv,p⟩
 | false=>obtain⟨its,rv,p,_⟩:=I.list h;exact⟨its,rv,p.isList⟩
theorem wx.inj (I:Inv X pins σ H s) {k:Bool}{a:Addr}{xs ys:List V}(h:wx X.K H k a xs) (h':wx X.K H k a ys):xs=ys:=by
 cases k with
 | true=>exact I.je h h'
 | false=>exact I.iQ h h'
def Zi (K:PySem.W.Frag) (k1 k2:Bool) (a1 a2:Addr):It:=
 ⟨λ i H=>∃ xs ys x y,wx K H k1 a1 xs/\wx K H k2 a2 ys/\xs[i]?=some x/\ys[i]?=some y,
   λ i H v H'=>∃ p x y,v=.ref p/\H p=none/\H'=upd H p (.tup [x,y])/\(∀ xs,wx K H k1 a1 xs->xs[i]?=some x)/\∀ ys,wx K H k2 a2 ys->ys[i]?=some y,
   λ i H=>∃ xs ys,wx K H k1 a1 xs/\wx K H k2 a2 ys/\(xs.length<=i\/ys.length<=i)⟩
theorem Y1 {P:Program}{w:World}{K:PySem.W.Frag}{es:List Expr}{kk} {pos:Pos}{k1 k2:Bool}{z TI TO i1 i2 a1 a2:Addr}(D:kO z TI TO i1 i2 a1 a2):
  Turn P w K (.Tuple es kk pos) (Zi K k1 k2 a1 a2) [z,TI,TO,i1,i2] z (λ i h=>At h k1 k2 z TI TO i1 i2 a1 a2 .none i) where
 mem:=by simp
 obj:=λ i h st b hb=>by
  obtain⟨q1,q2,⟨_,_,q3⟩,⟨o1,q4,_,d1⟩,⟨o2,q5,_,d2⟩⟩:=st;simp only[List.mem_cons,List.not_mem_nil,or_false] at hb;rcases hb with e | e | e | e | e <;> subst e
  .exact⟨_,q1,λ v z=>by cases z⟩
  .exact⟨_,q2,λ v z=>by cases z⟩
  .exact⟨_,q3,λ v z=>by cases z⟩
  .exact⟨_,q4,λ v z=>by rw[d1] at z;cases z⟩
  .exact⟨_,q5,λ v z=>by rw[d2] at z;cases z⟩
 keep:=λ i h h' st k=>st.keep k
 item:=by
  intro X hP hw hK hc i pins s σ H E I hf st hg;subst hP hw hK;obtain⟨xs,ys,x,y,g1,g2,hx,hy⟩:=hg;obtain⟨it1,rv1,q1⟩:=g1.of I;obtain⟨it2,rv2,q2⟩:=g2.of I;obtain⟨u1,e1,r1⟩:=rv1.get hx;obtain⟨u2,e2,r2⟩:=rv2.get hy;refine ZP.item D st q1 q2 (x:=u1) (y:=u2) (by simpa using e1) (by simpa using e2) λ h' S' T' up=>⟨_,rfl,?_⟩;refine wpAny_letOwnedTupleGo_zip S'.z λ h2 z2 sb=>?_;have nT:s.heap.objs.size∉[z,TI,TO,i1,i2]:=λ hb=>by
   obtain⟨o,ho,_⟩:=(show ∃ o,s.heap.get? s.heap.objs.size=some o/\True from by
    obtain⟨w1,w2,⟨_,_,w3⟩,⟨o1,w4,_⟩,⟨o2,w5,_⟩⟩:=st;simp only[List.mem_cons,List.not_mem_nil,or_false] at hb;rcases hb with e | e | e | e | e <;> rw[e]
    .exact⟨_,w1,trivial⟩
    .exact⟨_,w2,trivial⟩
    .exact⟨_,w3,trivial⟩
    .exact⟨_,w4,trivial⟩
    .exact⟨_,w5,trivial⟩)
   exact absurd (Heap.lt_size ho) (Nat.lt_irrefl _)
  have nz:s.heap.objs.size≠z:=λ e=>nT (by simp[e]);have fr:H s.heap.objs.size=none:=I.zE.fresh (Nat.le_refl _);have I1:Inv X pins σ (upd H s.heap.objs.size (.tup [x,y])) { s with heap:=s.heap.push { cls:=.type "tuple",data:=.seq [u1,u2].toArray },toks:=s.toks }:=
   I.laid (o:=.tup [x,y]) (λ b u q=>zHp _ q) (Nat.le_refl _) ⟨by show 2<=sizeLine;decide,[u1,u2],.cons r1 (.cons r2 .nil),IsTup.new _ _⟩
  have hf':∀ b∈[z,TI,TO,i1,i2],upd H s.heap.objs.size (.tup [x,y]) b=none:=λ b hb=>by
   rw[yM (λ e=>nT (by rw[<- e];exact hb))];exact (hf b hb).1
  have kk:∀ b o,b∉[z,TI,TO,i1,i2]->(s.heap.push { cls:=.type "tuple",data:=.seq [u1,u2].toArray }).get? b=some o->h2.get? b=some o:=λ b o hb q=>by
   have hbz:b≠z:=λ e=>hb (by simp[e]);by_cases hbs:b=s.heap.objs.size
   .subst hbs;rw[Heap.get?_push_size _ rfl] at q;cases q;exact sb.extBut _ _ nz T'
   .have q':s.heap.get? b=some o:=by rw[Heap.get?_push_ne _ _ _ hbs] at q;exact q
    exact sb.extBut _ _ hbz (up b o hb q')
  have I2:=Inv.mO (h':=h2) (t':=s.toks) (fp:=[z,TI,TO,i1,i2]) I1 kk λ b hb=>⟨hf' b hb,(hf b hb).2⟩;refine⟨.ref s.heap.objs.size,_,I2,rfl,⟨_,x,y,rfl,fr,rfl,λ zs hz=>by rw[hz.inj I g1];exact hx,λ zs hz=>by rw[hz.inj I g2];exact hy⟩,⟨z2,?_,?_,?_,?_⟩,hf'⟩
  .have nd:=D.nd;simp only[List.nodup_cons,List.mem_cons,List.not_mem_nil,or_false,not_or] at nd;exact sb.extBut _ _ (Ne.symm nd.1.1) S'.ti
  .obtain⟨a,b,e⟩:=S'.to;have nd:=D.nd;simp only[List.nodup_cons,List.mem_cons,List.not_mem_nil,or_false,not_or] at nd;exact⟨a,b,sb.extBut _ _ (Ne.symm nd.1.2.1) e⟩
  .have nd:=D.nd;simp only[List.nodup_cons,List.mem_cons,List.not_mem_nil,or_false,not_or] at nd;exact S'.s1.on λ o q=>sb.extBut _ _ (Ne.symm nd.1.2.2.1) q
  .have nd:=D.nd;simp only[List.nodup_cons,List.mem_cons,List.not_mem_nil,or_false,not_or] at nd;exact S'.s2.on λ o q=>sb.extBut _ _ (Ne.symm nd.1.2.2.2) q
 done:=by
  intro X hP hw hK hc i pins s σ H E I hf st hg;subst hP hw hK;obtain⟨xs,ys,g1,g2,hx⟩:=hg;obtain⟨it1,rv1,q1⟩:=g1.of I;obtain⟨it2,rv2,q2⟩:=g2.of I;have l1:=rv1.length;have l2:=rv2.length;refine ZP.stop (I.ok.hd hc) D st q1 q2 ?_ λ h' up=>⟨rfl,I.mO (t':=s.toks) up hf⟩;rcases hx with hx | hx
  .exact .inl (by simp;omega)
  .exact .inr (by simp;omega)
 self:=λ _ _ _ _ _ st h=>wpAny_pyIter_zip st.z h
def Sd (K:PySem.W.Frag) (ta:TA):TI:=fun σ H R=>ta σ H λ vs H1=>∃ a1 a2 k1 k2,vs=[.ref a1,.ref a2]/\(∃ xs,wx K H1 k1 a1 xs)/\(∃ ys,wx K H1 k2 a2 ys)/\R (Zi K k1 k2 a1 a2) H1
theorem Wl {a b:Expr}{ta:TA}{p pos pos':Pos}{es:List Expr}{kk} (hg:Gl X "zip") (hm:X.mg "zip"=none) (ha:PA X [a,b] ta) (hs:starEach [a,b] X.env=[(false,eval a X.env),(false,eval b X.env)]:=by rfl) (hs2:starEach [b] X.env=[(false,eval b X.env)]:=by rfl):
  PI X (.Tuple es kk pos') (.Call (.Name "zip" p) [a,b] [] pos) (Sd X.K ta):=by
 intro pins s σ H R I h;refine Call_ (qT I hg hm boot_zip (PyProof.Rows.callWith_type1 (zK (ha pos pins s σ H _ I h) λ us s1 ⟨vs,H1,I1,r1,q1⟩=>?_) (by rw[hs,hs2]) (by rw[hs2];rfl)));obtain⟨a1,a2,k1,k2,rfl,⟨xs,g1⟩,⟨ys,g2⟩,q⟩:=q1;cases r1 with
 | cons r rr=>
  cases rr with
  | cons r' rr=>
   cases rr;cases r;cases r';obtain⟨it1,_,q1⟩:=g1.of I1;obtain⟨it2,_,q2⟩:=g2.of I1;refine ZP.new q1 q2 λ h' z TI TO i1 i2 nw D S up=>wpAny_pyIter_zip S.z ?_;exact⟨z,[z,TI,TO,i1,i2],_,_,H1,rfl,I1.kept (t':=s1.toks) up,Y1 D,S,λ b hb=>I1.lZ (nw b hb) (I1.zE.fresh (nw b hb)),q⟩
end
end L2
namespace L5
open PySem PySem.Spec L2 L3
open PyProof.Rows hiding St
section
variable {X:Cx}{K:PySem.W.Frag}{a b:Expr}{tA:y6}{pos p pos':Pos}
def cT (t:y6):wR:=fun δ S R=>t δ S λ ds S1=>∃ d e xs ys,ds=[d,e]/\zZ d S1=some xs/\zZ e S1=some ys/\R ⟨List.zipWith (λ x y=>D.tup [x,y]) xs ys,λ S=>zZ d S=some xs/\zZ e S=some ys⟩ S1
noncomputable def oY:D->Bool
 | .tup _=>true
 | _=>false
theorem zZ.k {H:Hp}{S:SS}{d:D}{v:V}{ds:List D}(r:zg K H d v) (p:zN K H S) (e:zZ d S=some ds):∃ a xs,v=.ref a/\wx K H (oY d) a xs/\zq K H ds xs:=by
 by_cases q:∃ ts,d=.tup ts
 .obtain⟨ts,rfl⟩:=q;cases e;simp only[zg] at r;obtain⟨a,xs,h1,h2,h3⟩:=r;exact⟨a,xs,h1,h2,h3⟩
 .obtain⟨a,xs,h1,h2,h3⟩:=rA r p e λ ts z=>q ⟨ts,z⟩;refine⟨a,xs,h1,?_,h3⟩;have:oY d=false:=by cases d <;> first | rfl | exact absurd ⟨_,rfl⟩ q
  rw[this];exact h2
end
end L5
namespace L5
open PySem PySem.Spec L2 L3
open PyProof.Rows hiding St
section
variable {X:Cx}{K:PySem.W.Frag}{a b:Expr}{tA:y6}{pos p pos':Pos}{es:List Expr}{kk:Nat}
theorem WX (hm:X.mg "zip"=none) (ha:xO X [a,b] tA) (hg:Gl X "zip":=by rfl) (hs:starEach [a,b] X.env=[(false,eval a X.env),(false,eval b X.env)]:=by rfl) (hs2:starEach [b] X.env=[(false,eval b X.env)]:=by rfl):
  rf X (.Tuple es kk pos') (.Call (.Name "zip" p) [a,b] [] pos) (cT tA):=by
 refine⟨fun δ S Q Q' hq z=>ha.mo δ S _ _ (λ ds S1 ⟨d,e,xs,ys,h1,h2,h3,h4⟩=>⟨d,e,xs,ys,h1,h2,h3,hq _ _ h4⟩) z,PI.imp (Wl hg hm ha.pa hs hs2) fun σ H R hu=>?_⟩;obtain⟨δ,S,r1,r2,z⟩:=hu;refine wH.go ha.mo r1 r2 z λ ds S1 vs H1 h1 q1 e1 p1=>?_;obtain⟨d,e,xs,ys,rfl,s1,s2,h⟩:=h1;obtain⟨v,u,rfl,d1,d2⟩:=q1.two;obtain⟨a1,us,rfl,g1,g2⟩:=zZ.k d1 p1 s1;obtain⟨a2,ws,rfl,g3,g4⟩:=zZ.k d2 p1 s2;refine⟨a1,a2,oY d,oY e,rfl,⟨us,g1⟩,⟨ws,g3⟩,h _ H1 e1 p1 λ i H2 S2 x1 x2 hk=>?_⟩;obtain⟨b1,us2,q1,m1,m2⟩:=zZ.k (zg.ext x1 d d1) x2 hk.1;cases q1;obtain⟨b2,ws2,q2,m3,m4⟩:=zZ.k (zg.ext x1 e d2) x2 hk.2;cases q2;have l1:=m2.length;have l2:=m4.length;refine⟨λ dd hd=>?_,λ hl=>⟨us2,ws2,m1,m3,?_⟩⟩
 .rw[List.getElem?_zipWith] at hd;split at hd
  .rename_i dx dy hx hy;cases hd;obtain⟨x,hx',rx⟩:=m2.get hx;obtain⟨y,hy',ry⟩:=m4.get hy;refine⟨⟨us2,ws2,x,y,m1,m3,hx',hy'⟩,λ v H' q=>?_⟩;obtain⟨pp,x',y',rfl,hp,rfl,f1,f2⟩:=q;have ex:x'=x:=by have:=f1 _ m1;rw[hx'] at this;exact (Option.some.inj this).symm
   have ey:y'=y:=by have:=f2 _ m3;rw[hy'] at this;exact (Option.some.inj this).symm
   subst ex ey;refine⟨.new hp _,x2.new hp,?_⟩;simp only[zg];exact⟨pp,_,rfl,yb.of yL,zq.ext (.new hp _) _ (.cons rx (.cons ry .nil))⟩
  .cases hd
 .have hl':(List.zipWith (λ x y=>D.tup [x,y]) xs ys).length<=i:=hl;rw[List.length_zipWith] at hl';omega
@[simp] noncomputable def kU:List T->Option (List T)
 | [x,y]=>(xS x).bind λ xs=>(xS y).map λ ys=>List.zipWith (λ a b=>T.tup [a,b]) xs ys
 | _=>none
theorem eM {S:SS}:∀ {ts us:List T}{ds es:List D},zo S ts ds->zo S us es->zo S (List.zipWith (λ a b=>T.tup [a,b]) ts us) (List.zipWith (λ x y=>D.tup [x,y]) ds es)
 | [],us,ds,es,h,h'=>by simp only[zo] at h;subst h;simpa using zo.nil
 | t::ts,[],ds,es,h,h'=>by simp only[zo] at h';subst h';simpa using zo.nil
 | t::ts,u::us,ds,es,h,h'=>by
  simp only[zo] at h h';obtain⟨c,cs,rfl,h1,h2⟩:=h;obtain⟨c',cs',rfl,h3,h4⟩:=h';exact zo.cons (qA (zo.cons h1 (zo.cons h3 zo.nil))) (eM h2 h4)
theorem zZ.sx {S S':SS}{d:D}{ds:List D}(h:zZ d S=some ds) (s:Sx S S'):zZ d S'=some ds:=by
 unfold zZ at h ⊢;split at h
 .exact h
 .exact h
 .split at h
  .rename_i q;cases h;rw[s _ _ q]
  .cases h
 .cases h
theorem VT {g:Ev->Option (List T)}(h:qm g tA):ql false (vD kU g) (cT tA):=λ S Z δ ρ ts Q hE e hq=>by
 obtain⟨ys,e1,e2⟩:=zOb e;refine h S Z δ ρ ys _ hE e1 λ ds S1 s1 r1=>?_;unfold kU at e2;split at e2
 .obtain⟨xs,e3,e4⟩:=zOb e2;obtain⟨zs,e5,rfl⟩:=zOm e4;obtain⟨d,d',rfl,h1,h2⟩:=fW r1;obtain⟨es,g1,g2⟩:=h1.seq e3;obtain⟨es',g3,g4⟩:=h2.seq e5;exact⟨d,d',es,es',rfl,g1,g3,hq _ S1 s1 (eM g2 g4) λ S'' s=>⟨zZ.sx g1 s,zZ.sx g3 s⟩⟩
 .cases e2
end
end L5
namespace HT
open PySem PyProof.Rows
section
variable {prog:Program}{w:World}{A:Around}{E:Value->Shared->Prop}{s:Shared}
end
end HT
namespace L2
open PySem PySem.Spec PyProof.Rows
section
variable {X:Cx}
end
end L2
namespace L5
open PySem PySem.Spec L2 L3
open PyProof.Rows hiding St
section
variable {X:Cx}{K:PySem.W.Frag}{e:Expr}{lo hi:Option Expr}{te:zC}{tl th:Option zC}{pos p2:Pos}
end
end L5
namespace TM
open PySem PyProof.Rows
set_option maxRecDepth 100000
theorem noFill:fillsNumberSlot (.type "tuple") "mul"=pure false:=
 PySem.fillsNumberSlot_seq (id:="tuple.__mul__") (r:=some (.builtin "tuple.__rmul__")) F.slot_tuple_mul.lookup (by decide +kernel) F.slot_tuple_rmul.lookup (by decide +kernel)
theorem rep:seqRepeat? (.type "tuple")=pure (some (.builtin "tuple.__mul__")):=by
 have a:=PySem.seqSlot_of (T:="tuple") (name:="__mul__") (id:="tuple.__mul__") F.slot_tuple_mul.lookup (by decide +kernel);have b:=PySem.seqSlot_of (T:="tuple") (name:="__rmul__") (id:="tuple.__rmul__") F.slot_tuple_rmul.lookup (by decide +kernel);unfold seqRepeat?;rw[a,b];rfl
theorem declines (i:Int) (t:Tok) (l:Addr) (items:Array Value) (n:Nat) (dd:Option Addr) (sl:Array (Option Value)):
  Meets (Builtin.«int.__rmul__» ⟨[.int i t,.ref l],[]⟩) (λ _ R s=>s.heap.get? l=some { cls:=.type "tuple",dict:=dd,data:=.seq items n,slots:=sl }/\R (.ok (.ret Value.notImplemented)) s):=
 .of_wp λ prog w A R s h=>by
  obtain⟨hp,g,d,tk,os⟩:=s;obtain⟨hl,h⟩:=h
  wp_walk
  exact⟨_,rfl,h⟩
theorem gk {α:Type}(xs:List α):∀ (m:Nat) (acc:Array α),(List.replicate m xs.toArray).foldl (·++·) acc=acc++(List.replicate m xs).flatten.toArray
 | 0,acc=>by simp
 | m+1,acc=>by
  rw[List.replicate_succ,List.foldl_cons,gk xs m,List.replicate_succ,List.flatten_cons,Array.append_assoc];simp
theorem UN (k:Int) (t:Tok) (l:Addr) (items:Array Value) (n:Nat) (dd:Option Addr) (sl:Array (Option Value)) (h1:¬ (decide (k < -(2 ^ 63))||decide (k≥2 ^ 63))=true) (h2:¬ (items.isEmpty||k == 1)=true) (h3:¬ (decide (k<=0)||items.isEmpty)=true)
  (h4:¬ (items.size*k>(2 ^ 63-1)/8)) (h5:¬ Builtin.Tuple.tupleTooMany (items.size*k)=true) (h6:((List.replicate k.toNat items).foldl (·++·) #[]).size<=sizeLine):
  Meets (Builtin.«tuple.__mul__» ⟨[.ref l,.int k t],[]⟩) (λ _ R s=>s.heap.get? l=some { cls:=.type "tuple",dict:=dd,data:=.seq items n,slots:=sl }/\
   R (.ok (.ret (.ref s.heap.objs.size))) { s with heap:=s.heap.push { cls:=.type "tuple",data:=.seq ((List.replicate k.toNat items).foldl (·++·) #[]) } }):=
 .of_wp λ prog w A R s h=>by
  obtain⟨hp,g,d,tk,os⟩:=s;obtain⟨hl,h⟩:=h;have e0:IsTup (Shared.heap ⟨hp,g,d,tk,os⟩) l items:=⟨_,hl,rfl,n,rfl⟩
  wp_walk
  rw[if_neg h1];refine zWb (m:=Builtin.Tuple.tupleItemsOf (.ref l)) (tupleItemsOf_ e0 ?_);dsimp only;rw[if_neg h2,if_neg h3,if_neg h4,if_neg h5];exact zWb (m:=Builtin.Tuple.tupleExact _) (wpAny_newObj_type (wpAny_pure ⟨_,rfl,h⟩) h6)
theorem UO (t:Tok) (l:Addr) (items:Array Value) (n:Nat) (dd:Option Addr) (sl:Array (Option Value)):
  Meets (Builtin.«tuple.__mul__» ⟨[.ref l,.int 1 t],[]⟩) (λ _ R s=>s.heap.get? l=some { cls:=.type "tuple",dict:=dd,data:=.seq items n,slots:=sl }/\R (.ok (.ret (.ref l))) s):=
 .of_wp λ prog w A R s h=>by
  obtain⟨hp,g,d,tk,os⟩:=s;obtain⟨hl,h⟩:=h;have c:(items.isEmpty||(1:Int) == 1)=true:=by simp
  wp_walk
  exact⟨_,rfl,h⟩
section
variable {prog:Program}{w:World}{A:Around}{E:Value->Shared->Prop}{s:Shared}
theorem times {l:Addr}{its:List Value}{k:Int}{t:Tok}{Q:Value->Shared->Prop}(ht:IsTup s.heap l its.toArray) (hne:its≠[]) (h0:1<=k) (hz:its.length*k.toNat<=sizeLine)
  (one:k=1->Q (.ref l) s) (more:k≠1->Q (.ref s.heap.objs.size) { s with heap:=s.heap.push { cls:=.type "tuple",data:=.seq (List.replicate k.toNat its).flatten.toArray } }):
  wpAny (model prog w) A (binaryOp .Mult (.ref l) (.int k t)) Q E s:=by
 have hT:=ht.typeIs;obtain⟨⟨cls,dd,data,sl⟩,ho,hc,n,hd⟩:=id ht;simp only at hc hd;subst hc hd;refine wpAny_binaryOp_repeat_ref (T:="tuple") (U:="int") (by decide) hT (λ s'=>typeIs_int s' k t) noFill F.fills_int_mul F.slot_int_rmul rep F.slot_int_index.lookup
  (call_meets F.slot_int_rmul (typeIs_int s k t) F.entry_int_rmul (F.args_int_rmul_2 _ _) (declines k t l its.toArray n dd sl) ⟨ho,rfl,hT,?_⟩)
 have hlen:0<its.length:=List.length_pos_iff.mpr hne;have hem:its.toArray.isEmpty=false:=by cases its with
  | nil=>exact absurd rfl hne
  | cons a r=>rfl
 by_cases h1:k=1
 .subst h1;exact call_meets F.slot_tuple_mul hT F.entry_tuple_mul (F.args_tuple_mul_2 _ _) (UO t l its.toArray n dd sl) ⟨ho,one rfl⟩
 .have hks:k.toNat<=sizeLine:=Nat.le_trans (Nat.le_mul_of_pos_left _ hlen) hz;have hl:sizeLine=16777216:=rfl;have hk2:k<=16777216:=by omega
  have hcast:((its.toArray.size:Nat):Int)*k=((its.length*k.toNat:Nat):Int):=by
   rw[List.size_toArray,Int.natCast_mul,Int.toNat_of_nonneg (by omega)]
  have hf:(List.replicate k.toNat its.toArray).foldl (·++·) #[]=(List.replicate k.toNat its).flatten.toArray:=by rw[gk];simp
  have hfl:(List.replicate k.toNat its).flatten.length=k.toNat*its.length:=by simp
  refine call_meets F.slot_tuple_mul hT F.entry_tuple_mul (F.args_tuple_mul_2 _ _) (UN k t l its.toArray n dd sl ?_ ?_ ?_ ?_ ?_ ?_) ⟨ho,?_⟩
  .simp only[Bool.or_eq_true,decide_eq_true_eq,not_or];exact⟨by omega,by omega⟩
  .rw[hem];simpa using h1
  .rw[hem];simp;omega
  .rw[hcast];omega
  .rw[hcast];intro q;unfold Builtin.Tuple.tupleTooMany at q;have:=of_decide_eq_true q;omega
  .rw[hf,List.size_toArray,hfl,Nat.mul_comm];exact hz
  .rw[hf];exact more h1
end
end TM
namespace L2
open PySem PySem.Spec PyProof.Rows
def jW (K:PySem.W.Frag):R2:=λ x y H Q=>∃ a k xs,x=.ref a/\y=.int k/\yb K H a xs/\xs≠[]/\1<=k/\xs.length*k.toNat<=sizeLine/\(k=1->Q (.ref a) H)/\(k≠1->∀ p,H p=none->Q (.ref p) (upd H p (.tup (List.replicate k.toNat xs).flatten)))
theorem V4 {X:Cx}:yr X (binaryOp .Mult) (jW X.K):=by
 intro pins s σ H x y v u Q I rx ry h;obtain⟨a,k,xs,rfl,rfl,hx,hne,h1,hz,q1,q2⟩:=h;cases rx;obtain⟨t,rfl⟩:=ry;obtain⟨its,r,ht,_⟩:=I.tuple hx;have hl:=r.length;refine TM.times ht (λ z=>hne (r.oS.mp z)) h1 (by rw[<- hl];exact hz) (λ e=>⟨.ref a,H,I,rfl,q1 e⟩) λ e=>?_;have hlen:(List.replicate k.toNat xs).flatten.length<=sizeLine:=by
  have:(List.replicate k.toNat xs).flatten.length=k.toNat*xs.length:=by simp
  rw[this,Nat.mul_comm];exact hz
 exact⟨.ref _,_,I.laid (t':=s.toks) (o:=.tup (List.replicate k.toNat xs).flatten) (λ b ob q=>zHp _ q) (Nat.le_refl _) ⟨hlen,_,r.rep k.toNat,IsTup.new _ _⟩,rfl,q2 e _ (I.zE.fresh (Nat.le_refl _))⟩
end L2
namespace L5
open PySem PySem.Spec L2 L3
open PyProof.Rows hiding St
section
variable {X:Cx}{K:PySem.W.Frag}{a b:Expr}{ta tb:zC}{pos:Pos}
def uX:yU:=λ x y S Q=>match x,y with
 | .int i,.int j=>wz i j/\Q (.int (i*j)) S
 | .tup ds,.int k=>(ds≠[]/\1<=k/\ds.length*k.toNat<=sizeLine)/\Q (.tup (List.replicate k.toNat ds).flatten) S
 | _,_=>False
noncomputable def iG:T->T->Option T
 | .int i,.int j=>if wz i j then some (.int (i*j)) else none
 | .tup ts,.int k=>if ts≠[]/\1<=k/\ts.length*k.toNat<=sizeLine then some (.tup (List.replicate k.toNat ts).flatten) else none
 | _,_=>none
theorem uX.mo:xP uX:=λ x y S Q Q' hq h=>by
 unfold uX at h ⊢;split at h
 .exact⟨h.1,hq _ _ h.2⟩
 .exact⟨h.1,hq _ _ h.2⟩
 .exact h.elim
theorem zq.rep {H:Hp}{ds:List D}{xs:List V}(h:zq K H ds xs):∀ n:Nat,zq K H (List.replicate n ds).flatten (List.replicate n xs).flatten
 | 0=>.nil
 | n+1=>by
  rw[List.replicate_succ,List.replicate_succ,List.flatten_cons,List.flatten_cons];exact h.append (zq.rep h n)
theorem uX.fits:xJ K uX (λ x y H Q=>rI wz (λ i j=>.int (i*j)) x y H Q\/jW K x y H Q):=λ x y d e H S Q h1 h2 h3 h=>by
 unfold uX at h;split at h
 .simp only[zg] at h1 h2;exact .inl ⟨_,_,h1,h2,h.1,h.2 _ H (by simp only[zg]) (.refl H) h3⟩
 .rename_i ds k;obtain⟨⟨c1,c2,c3⟩,h⟩:=h;have h1':=h1;simp only[zg] at h1 h2;obtain⟨a,xs,rfl,g1,g2⟩:=h1;have hl:=g2.length;refine .inr ⟨a,k,xs,rfl,h2,g1,λ z=>c1 (by subst z;cases ds with | nil=>rfl | cons _ _=>simp at hl),c2,by rw[<- hl];exact c3,λ e=>?_,λ e p hp=>?_⟩
  .subst e;refine h _ H ?_ (.refl H) h3;have:(List.replicate (1:Int).toNat ds).flatten=ds:=by simp
   rw[this];exact h1'
  .refine h _ _ ?_ (.new hp _) (h3.new hp);simp only[zg];exact⟨p,_,rfl,yb.of yL,zq.ext (.new hp _) _ (zq.rep g2 _)⟩
 .exact h.elim
theorem zo.rep {S:SS}{ts:List T}{ds:List D}(h:zo S ts ds):∀ n:Nat,zo S (List.replicate n ts).flatten (List.replicate n ds).flatten
 | 0=>.nil
 | n+1=>by
  rw[List.replicate_succ,List.replicate_succ,List.flatten_cons,List.flatten_cons];exact h.append (zo.rep h n)
theorem Su:Good2 zM iG uX:=λ S Z x y z d e Q hz hx hy ef hq=>by
 unfold iG at ef;split at ef
 .split at ef
  .rename_i hc;cases ef;cases hx.int;cases hy.int;exact⟨hc,hq _ S (.refl S) (Cl.of (λ _=>nofun) wY)⟩
  .cases ef
 .split at ef
  .rename_i hc;cases ef;obtain⟨ds,rfl,h2⟩:=hx.tup;cases hy.int;have hl:=h2.len;exact⟨⟨λ q=>hc.1 (by subst q;simpa using hl.symm),hc.2.1,by rw[hl];exact hc.2.2⟩,hq _ S (.refl S) (Cl.of (λ _=>nofun) (qA (zo.rep h2 _)))⟩
  .cases ef
 .cases ef
end
end L5
namespace L4
open PySem PyProof.Rows
section
variable {prog:Program}{w:World}{A:Around}{E:Value->Shared->Prop}{s:Shared}
theorem R8 {l:Addr}{vs:List Value}{Q:List Value->Shared->Prop}(hl:IsTup s.heap l vs.toArray) (hz:vs.length<=sizeLine)
  (h:Q vs { s with heap:=(s.heap.push (seqObj "list" #[] 0)).update s.heap.objs.size (Obj.mapSeq (·++vs.toArray)) }):wpAny (model prog w) A (collect (.ref l)) Q E s:=by
 obtain⟨o,ho,hc,n,hd⟩:=id hl;have new:(s.heap.push (seqObj "list" #[] 0)).get? s.heap.objs.size=some (seqObj "list" #[] 0):=Heap.get?_push_size _ rfl;have ho':(s.heap.push (seqObj "list" #[] 0)).get? l=some o:=zHp _ ho;unfold collect;refine zWb (wpAny_runValue (codeAny_builtin entry_proto_collect' (zWb (m:=newList []) (wpAny_newList (wpAny_pure ⟨Code.quiet_builtin _ (by decide +kernel),codeAny_builtin entry_list_iadd' ?_⟩)))));show wpAny _ _ (Builtin.List.listExtendWith (.ref s.heap.objs.size) (.ref l) (.ref s.heap.objs.size)) _ _ { s with heap:=s.heap.push (seqObj "list" #[] 0) };unfold Builtin.List.listExtendWith;refine zWb (wpAny_typeOf (T:="tuple") ⟨o,ho',hc⟩ ?_);rw[if_pos (by rw[show (Value.type "tuple" == Value.type "tuple")=true from rfl];simp)];refine zWb (listItems_at ho' hd (zWb (listItems_at (xs:=#[]) (n:=0) new rfl ?_)));rw[if_neg (by simp)];refine zWb (listUpdate_at (xs:=#[]) (n:=0) new rfl (wpAny_pure ?_) (Nat.zero_le _) (by show (#[]++vs.toArray).size<=sizeLine+1;simp only[Array.size_append,List.size_toArray,List.length_nil];omega));refine zWb (m:=load s.heap.objs.size) (wpAny_load (get?_update_seq new _) ?_);show wpAny _ _ (pure ((#[]:Array Value)++vs.toArray).toList) Q E _;have e:((#[]:Array Value)++vs.toArray).toList=vs:=by simp
 rw[e];exact wpAny_pure h
theorem Xa {l:Addr}{vs:List Value}{Q:Value->Shared->Prop}{Out:Array Value->Prop}(hl:IsTup s.heap l vs.toArray) (hz:vs.length<=sizeLine)
  (core:2<=vs.length->∀ s6:Shared,(∀ b o,s.heap.get? b=some o->s6.heap.get? b=some o)->Core prog w A.in1.in1 E vs Out s6) (short:vs.length<2->Out vs.toArray)
  (fin:∀ out:Array Value,Out out->out.size=vs.length->Q (.ref (s.heap.objs.size+1)) { s with heap:=sortedAll s.heap vs out }):
  wpAny (model prog w) A (call (.builtin "sorted") [.ref l]) Q E s:=by
 let h1:=(s.heap.push (seqObj "list" #[] 0)).update s.heap.objs.size (Obj.mapSeq (·++vs.toArray))
 have sz:h1.objs.size=s.heap.objs.size+1:=by show (Heap.update _ _ _).objs.size=_;rw[Heap.size_update,size_push']
 have there:(h1.push (seqObj "list" vs.toArray 0)).get? (s.heap.objs.size+1)=some (seqObj "list" vs.toArray 0):=sz▸Heap.get?_push_size _ rfl;have keep:∀ b o,s.heap.get? b=some o->(h1.push (seqObj "list" vs.toArray 0)).get? b=some o:=λ b o q=>by
  refine zHp _ ?_;show (Heap.update _ _ _).get? b=_;rw[Heap.get?_update_ne _ _ _ _ (Nat.ne_of_lt (Heap.lt_size q))];exact zHp _ q
 refine Calls.call_function_entry kind_sorted plain_sorted entry_sorted (args_sorted1 _) ?_;unfold Builtin.«sorted»;refine zWb (m:=checkCount "sorted" 1 1 _) (wpAny_pure (zWb (R8 hl hz (zWb (wpAny_newList ?_ hz)))));show wpAny _ _ _ _ _ { s with heap:=h1.push (seqObj "list" vs.toArray 0) };rw[show (Heap.update (s.heap.push (seqObj "list" #[] 0)) s.heap.objs.size (Obj.mapSeq (·++vs.toArray))).objs.size=s.heap.objs.size+1 from sz];refine zWb (wpAny_holding (wpAny_call_entry slot_list_sort ⟨_,there,rfl⟩ entry_list_sort (iP there hz (λ h2 s6 k=>core h2 s6 λ b o q=>k b o (Nat.ne_of_lt (Nat.lt_succ_of_lt (Heap.lt_size q))) (keep b o q)) short λ out g1 g2=>⟨_,rfl,?_⟩) (args_list_sort _)));exact wpAny_pure ⟨_,rfl,fin out g1 g2⟩
end
section
open L2 PySem.Spec
variable {X:Cx}
theorem RF:yK X (.builtin "sorted") (λ xs H Q=>∃ p ys,∃ rows:List (List Int),xs=[.ref p]/\yb X.K H p ys/\Paired (λ v r=>r≠[]/\∃ b,v=V.ref b/\yb X.K H b (r.map V.int)) ys rows/\rows.length<64/\
  ∀ (l:Addr) (idx:List Nat),H l=none->idx.Perm (List.range ys.length)->(idx.map λ i=>rows.getD i []).Pairwise (λ a b=>HT.lexLt b a=false)->Q (.ref l) (upd H l (.lst (idx.map λ i=>ys.getD i .zk)))):=by
 intro pins s σ H xs us Q I r h;obtain⟨p,ys,rows,rfl,hq,hr,h64,q⟩:=h;obtain⟨u,rfl,ru⟩:=vals1 r;cases ru;obtain⟨its,rv,pl,hz⟩:=I.tuple hq;have hl:=rv.length;have hlr:ys.length=rows.length:=Paired.length hr;have rows_at:∀ h6:Heap,(∀ b o,s.heap.get? b=some o->h6.get? b=some o)->tX h6 its rows:=λ h6 k=>by
  refine ST.Paired.mk (by omega) λ i a b ha hb=>?_;have hi:i<ys.length:=by have:=(List.getElem?_eq_some_iff.mp hb).1;omega
  obtain⟨hne,c,hc,hsq⟩:=L4.Paired.at' hr (i:=i) hi V.zk ([]:List Int);obtain⟨u,e1,e2⟩:=rv.get (i:=i) (x:=ys.getD i V.zk) (by simp[hi]);rw[ha] at e1;cases e1;rw[hc] at e2;cases (show a=Value.ref c from e2);obtain⟨its2,rv2,⟨o,e,hcl,n,hd⟩,_⟩:=I.tuple hsq;have eb:rows.getD i []=b:=by simp[hb]
  rw[eb] at hne rv2;exact⟨hne,c,o,_,n,rfl,k _ _ e,hcl,hd,by simpa using intsAre_of rv2⟩
 refine Xa (Out:=mh its rows) pl (by rw[<- hl];exact hz) (λ h2 s6 k=>gA (rows_at _ k) h2 (by omega)) (λ h1=>?_) λ out ho hs=>?_
 .refine⟨List.range its.length,.refl _,?_,?_⟩
  .refine List.ext_getElem (by simp) λ i h1 h2=>?_;simp at h1;simp[h1]
  .rw[List.pairwise_map,List.pairwise_iff_getElem];intro i j hi hj hij;simp at hi hj;omega
 .obtain⟨idx,g1,g2,g3⟩:=ho;obtain⟨e,ho⟩:=sortedAll_at s.heap its out;have g1':idx.Perm (List.range ys.length):=by rw[hl];exact g1
  refine⟨.ref (s.heap.objs.size+1),_,I.laid (t':=s.toks) (o:=.lst (idx.map λ i=>ys.getD i .zk)) (λ b o q=>sortedAll_old q) (Nat.le_succ _) ?_,rfl,q _ idx (I.zE.fresh (Nat.le_succ _)) g1' g3⟩;refine⟨by rw[List.length_map,g1'.length_eq,List.length_range];exact hz,out.toList,e,?_,by simpa using ho⟩;rw[g2];refine ST.Paired.mk (by simp) λ j a b ha hb=>?_;rw[List.getElem?_map] at ha hb;obtain⟨i,hi,rfl⟩:=zOm ha;rw[hi] at hb;cases hb;have hil:i<ys.length:=by simpa using g1'.mem_iff.mp (List.mem_of_getElem? hi)
  obtain⟨u,e1,e2⟩:=rv.get (i:=i) (x:=ys.getD i V.zk) (by simp[hil]);have e3:its.getD i Value.none=u:=by simp[e1]
  show L2.RelV (ys.getD i V.zk) (its.getD i Value.none);rw[e3];exact e2
end
end L4
namespace L5
open PySem PySem.Spec L2 L3
open PyProof.Rows hiding St
section
variable {X:Cx}{K:PySem.W.Frag}{e:Expr}{es:List Expr}{tA:y6}{pos p pos2 p2:Pos}
def sS:xM:=λ ds S Q=>∃ d,∃ rows:List (List Int),ds=[d]/\zZ d S=some (rows.map wc)/\rows.length<64/\(∀ r∈rows,r≠[])/\∀ l,S l=none->Q (.ref l) (ups S l (.lst ((L4.xQ rows).map wc)))
noncomputable def qz:List T->Option T
 | [y]=>(xS y).bind λ ts=>(vX ts).bind λ rs=>if rs.length<64/\∀ r∈rs,r≠[] then some (.lst ((L4.xQ rs).map yt)) else none
 | _=>none
theorem bz:vS zM qz sS:=λ S Z ys z ds Q hz hv e hq=>by
 unfold qz at e;split at e
 .obtain⟨d,rfl,h1⟩:=vw hv;obtain⟨ts,e0,e⟩:=zOb e;obtain⟨rs,e1,e2⟩:=zOb e;split at e2
  .rename_i hc;cases e2;cases jQ e1;obtain⟨es,h2,h3⟩:=h1.seq e0;cases q8.mp h3;exact⟨d,rs,rfl,h2,hc.1,hc.2,λ l hl=>hq _ _ (.new hl _) (sH hz hl (q8.mpr rfl))⟩
  .cases e2
 .cases e
theorem sS.mo:vR sS:=λ ds S Q Q' hq ⟨d,rows,h0,h1,h2,h3,h4⟩=>⟨d,rows,h0,h1,h2,h3,λ l hl=>hq _ _ (h4 l hl)⟩
abbrev df (K:PySem.W.Frag) (sq:Hp->Addr->List V->Prop):List V->Hp->VK->Prop:=λ xs H Q=>∃ p ys,∃ rows:List (List Int),xs=[.ref p]/\sq H p ys/\Paired (λ v r=>r≠[]/\∃ b,v=V.ref b/\yb K H b (r.map V.int)) ys rows/\rows.length<64/\
  ∀ (l:Addr) (idx:List Nat),H l=none->idx.Perm (List.range ys.length)->(idx.map λ i=>rows.getD i []).Pairwise (λ a b=>HT.lexLt b a=false)->Q (.ref l) (upd H l (.lst (idx.map λ i=>ys.getD i .zk)))
theorem yK.or {f:Value}{r r':List V->Hp->VK->Prop}(h:yK X f r) (h':yK X f r'):yK X f (λ xs H Q=>r xs H Q\/r' xs H Q):=λ pins s σ H xs us Q I rv q=>
 q.elim (λ q=>h pins s σ H xs us Q I rv q) λ q=>h' pins s σ H xs us Q I rv q
theorem sS.fits:uF K sS (λ xs H Q=>df K (zQ K) xs H Q\/df K (yb K) xs H Q):=λ xs ds H S Q h0 h2 h=>by
 obtain⟨d,rows,rfl,e,h64,hne,h⟩:=h;obtain⟨x,hx,h1⟩:=h0.one;subst hx;obtain⟨a,ys,rfl,g1,g2⟩:=zZ.sq h1 h2 e;have hl:=g2.length;rw[List.length_map] at hl;have key:∀ (l:Addr) (idx:List Nat),H l=none->idx.Perm (List.range ys.length)->(idx.map λ i=>rows.getD i []).Pairwise (λ a b=>HT.lexLt b a=false)->Q (.ref l) (upd H l (.lst (idx.map λ i=>ys.getD i .zk))):=λ l idx hf hp hs=>by
  rw[<- hl] at hp;have heq:=L4.eJ (cB hp) hs;have hx:Ext H (upd H l (.lst (idx.map λ i=>ys.getD i .zk))):=.new hf _;refine h l (h2.none hf) _ _ (by simp only[zg]) hx (h2.ups hx ⟨_,yL,?_⟩);rw[<- heq];exact zq.ext hx _ (g2.perm λ i hi=>by simpa using hp.mem_iff.mp hi)
 rcases g1 with g1 | g1
 .exact .inl ⟨_,ys,rows,rfl,g1,oo g2 hne,h64,key⟩
 .exact .inr ⟨_,ys,rows,rfl,g1,oo g2 hne,h64,key⟩
theorem dR (hm:X.mg "sorted"=none) (ha:xO X (e::es) tA) (hg:Gl X "sorted":=by rfl) (he:starEach (e::es) X.env=(false,eval e X.env)::starEach es X.env:=by rfl) (hpl:(backTo pos (starEach es X.env)).any (·.1)=false:=by rfl):PD X (.Call (.Name "sorted" p) (e::es) [] pos) (xK sS tA):=
 uQ (tB (yK.or L4.RI L4.RF) hg hm boot_sorted ha.pa (by decide) (by decide) he hpl) sS.mo sS.fits ha.mo
end
end L5
namespace L2
open PySem PySem.Spec PyProof.Rows
section
variable {X:Cx}
def uw (r:Addr) (j:Int):Heap->Prop:=λ h=>∃ t u v,IsRange h r 0 j 1 t u v
theorem RP:yK X (.type "range") (λ xs H Q=>∃ j,xs=[.int j]/\∀ r,H r=none->Q (.ref r) (upd H r (.ext (uw r j)))):=by
 intro pins s σ H xs us Q I r h;obtain⟨j,rfl,q⟩:=h;obtain⟨u,rfl,ru⟩:=vals1 r;obtain⟨t,rfl⟩:=ru;refine call_range_1 ⟨.ref s.heap.objs.size,_,I.laid (o:=.ext (uw s.heap.objs.size j)) (λ b o e=>zHp _ e) (Nat.le_refl _) ?_,rfl,q _ (I.zE.fresh (Nat.le_refl _))⟩;have here:uw s.heap.objs.size j (s.heap.push { cls:=.type "range",data:=.fields #[.int 0 s.toks,.int j t,.int 1 (s.toks+1)] }):=⟨_,_,_,IsRange.new ..⟩
 refine⟨here,⟨_,Heap.get?_push_size _ rfl⟩,λ h1 h2 S k=>?_⟩;obtain⟨a,b,c,e⟩:=S;exact⟨a,b,c,k _ e⟩
theorem RU (hc:X.calm=true):yK X (.type "list") (λ xs H Q=>∃ r j,xs=[.ref r]/\H r=some (.ext (uw r j))/\0<=j/\j<=16777216/\∀ l,H l=none->Q (.ref l) (upd H l (.lst ((List.range j.toNat).map λ(k:Nat)=>V.int (k:Int))))):=by
 intro pins s σ H xs us Q I r h;obtain⟨a,j,rfl,hr,h0,h1,q⟩:=h;obtain⟨u,rfl,ru⟩:=vals1 r;cases ru;obtain⟨⟨t,u,v,hR⟩,-,-⟩:=(show xm X.prog X.w H s.heap a (.ext (uw a j)) from I.zE a _ hr)
 have hsz:Builtin.Range.rangeSize 0 j 1=((j.toNat:Nat):Int):=by rw[rangeSize_one];split <;> omega
 refine call_list_range (n:=j.toNat) (I.ok.hd hc) hR (small_one (by decide) (by decide) (by omega) (by omega)) hsz (by omega) λ h' tk acc c k e hi=>?_;refine⟨.ref s.heap.objs.size,_,I.laid (o:=.lst ((List.range j.toNat).map λ(k:Nat)=>V.int (k:Int))) k (Nat.le_refl _) ⟨?_,acc.toList,c,?_,by simpa using e⟩,rfl,q _ (I.zE.fresh (Nat.le_refl _))⟩
 .have:sizeLine=16777216:=rfl;simp;omega
 .obtain⟨hn,hi⟩:=hi;refine ST.Paired.mk (by simp[hn]) λ i a b ha hb=>?_;rw[List.getElem?_map] at ha;obtain⟨k',hk,rfl⟩:=zOm ha;obtain⟨hk1,hk2⟩:=List.getElem?_eq_some_iff.mp hk;simp at hk2;subst hk2;obtain⟨w,hw⟩:=hi i b (by simpa using hb);subst hw;exact⟨w,by simp⟩
end
end L2
namespace L5
open PySem PySem.Spec L2 L3
open PyProof.Rows hiding St
section
variable {X:Cx}{K:PySem.W.Frag}{e:Expr}{tA:y6}{pos p pos2 p2:Pos}
def tP:xM:=λ ds S Q=>∃ j:Int,ds=[.int j]/\0<=j/\j<=16777216/\∀ l,S l=none->Q (.ref l) (ups S l (.lst (vz 0 j.toNat)))
noncomputable def oX:List T->Option T
 | [.int j]=>if 0<=j/\j<=16777216 then some (.lst (rangeT 0 j.toNat)) else none
 | _=>none
theorem Sv:vS zM oX tP:=λ S Z ys z ds Q hz hv e hq=>by
 unfold oX at e;split at e
 .obtain⟨d,rfl,h1⟩:=vw hv;split at e
  .rename_i hc;cases e;cases h1.int;exact⟨_,rfl,hc.1,hc.2,λ l hl=>hq _ _ (.new hl _) (sH hz hl (eN _ _))⟩
  .cases e
 .cases e
theorem tP.mo:vR tP:=λ ds S Q Q' hq ⟨j,h0,h1,h2,h3⟩=>⟨j,h0,h1,h2,λ l hl=>hq _ _ (h3 l hl)⟩
theorem X6 {H:Hp}(n:Nat):zq K H (vz 0 n) ((List.range n).map λ(k:Nat)=>V.int (k:Int)):=by
 unfold vz
 induction List.range n with
 | nil=>exact .nil
 | cons k l ih=>exact .cons (by simp only[zg];rw[Int.zero_add]) ih
theorem tP.fits:uF K tP (λ xs H Q=>∃ j,xs=[.int j]/\∀ r,H r=none->∃ r' j',[V.ref r]=[.ref r']/\(upd H r (.ext (uw r j))) r'=some (.ext (uw r' j'))/\0<=j'/\j'<=16777216/\
  ∀ l,(upd H r (.ext (uw r j))) l=none->Q (.ref l) (upd (upd H r (.ext (uw r j))) l (.lst ((List.range j'.toNat).map λ(k:Nat)=>V.int (k:Int))))):=λ xs ds H S Q h0 h2 h=>by
 obtain⟨j,rfl,c1,c2,h⟩:=h;obtain⟨x,hx,h1⟩:=h0.one;subst hx;simp only[zg] at h1;subst h1;refine⟨j,rfl,λ r hr=>⟨r,j,rfl,yL,c1,c2,λ l hl=>?_⟩⟩;have x1:Ext H (upd H r (.ext (uw r j))):=.new hr _;have hlr:l≠r:=λ z=>by subst z;rw[yL] at hl;cases hl
 have hlH:H l=none:=by rw[yM hlr] at hl;exact hl
 have x2:Ext (upd H r (.ext (uw r j))) (upd (upd H r (.ext (uw r j))) l (.lst ((List.range j.toNat).map λ(k:Nat)=>V.int (k:Int)))):=.new hl _;exact h l (h2.none hlH) _ _ (by simp only[zg]) (x1.trans x2) ((h2.new hr).ups x2 ⟨_,yL,X6 _⟩)
theorem Vf (hm:X.mg "list"=none) (hm2:X.mg "range"=none) (ha:xO X [e] tA) (hc:X.calm=true:=by rfl) (hg:Gl X "list":=by rfl) (hg2:Gl X "range":=by rfl)
  (he2:starEach [e] X.env=(false,eval e X.env)::starEach [] X.env:=by rfl)
  (he:starEach [.Call (.Name "range" p2) [e] [] pos2] X.env=(false,eval (.Call (.Name "range" p2) [e] [] pos2) X.env)::starEach [] X.env:=by rfl) (hpl:(backTo pos (starEach [] X.env)).any (·.1)=false:=by rfl) (hpl2:(backTo pos2 (starEach [] X.env)).any (·.1)=false:=by rfl):
  PD X (.Call (.Name "list" p) [.Call (.Name "range" p2) [e] [] pos2] [] pos) (xK tP tA):=by
 have h:=qI (p:=p) (RU hc) hg hm PyProof.Rows.boot_list (rH (qI RP hg2 hm2 boot_range ha.pa (by decide) (by decide) he2 hpl2) qP he) (by decide) (by decide) he hpl;exact⟨xK.mo tP.mo ha.mo,PE.imp h λ _ _ _ hu=>el tP.mo tP.fits ha.mo hu⟩
end
end L5
namespace ST
open PySem PySem.SetTable PySem.Spec PyProof.Rows L2
theorem TZ {us us':List Value}(p:us'.Perm us):∀ {ms:List Int},IntsAre us ms->∃ ms',IntsAre us' ms'/\ms'.Perm ms:=by
 induction p with
 | nil=>intro ms h;exact⟨ms,h,.refl _⟩
 | cons x _ ih=>
  intro ms h;cases h with
  | cons n t h=>
   obtain⟨ms',h1,h2⟩:=ih h;exact⟨n::ms',.cons n t h1,h2.cons n⟩
 | swap x y l=>
  intro ms h;cases h with
  | cons n t h=>
   cases h with
   | cons m u h=>exact⟨m::n::_,.cons m u (.cons n t h),.swap _ _ _⟩
 | trans _ _ ih1 ih2=>
  intro ms h;obtain⟨m1,h1,h2⟩:=ih2 h;obtain⟨m2,h3,h4⟩:=ih1 h1;exact⟨m2,h3,h4.trans h2⟩
theorem vP.at {prog:Program}{w:World}{h:Heap}{a:Addr}{xs:List (Int×Tok)}(S:vP prog w h a xs (vA w)):yT w a (xs.map λ e=>Value.int e.1 e.2) h:=by
 obtain⟨⟨es,ep,t,ho,he,T,h1,h2,h3⟩,_⟩:=S;have hm:7<=t.mask/\t.mask<=127:=by rcases T.mask with e | e | e <;> omega
 have hlen:es.size=xs.length:=by have:=congrArg List.length he;simpa using this
 exact⟨es,ep,t,⟨ho,fits_of (n:=xs.length) hlen T (by simp) (by omega),T.wJ,h1,h2⟩,by rw[he,List.map_map];rfl⟩
theorem bj:∀ xs:List (Int×Tok),IntsAre (xs.map λ e=>Value.int e.1 e.2) (xs.map (·.1))
 | []=>.nil
 | e::xs=>.cons e.1 e.2 (bj xs)
theorem fX:∀ {us:List Value}{ns:List Int},IntsAre us ns->Vals (ns.map V.int) us
 | _,_,.nil=>.nil
 | _,_,.cons n t h=>.cons ⟨t,rfl⟩ (fX h)
section
variable {X:Cx}
theorem RK (hc:X.calm=true):yK X (.type "set") (λ xs H Q=>∃ p,∃ ns:List Int,xs=[.ref p]/\zQ X.K H p (ns.map V.int)/\ns.length<64/\
  ∀ (l:Addr) (us:List Value) (ms:List Int),H l=none->IntsAre us ms->ms.Nodup->(∀ n,n∈ms↔n∈ns)->Q (.ref l) (upd H l (.ext (yT X.w l us)))):=by
 intro pins s σ H xs us Q I r h;obtain⟨p,ns,rfl,hq,h64,q⟩:=h;obtain⟨u,rfl,ru⟩:=vals1 r;cases ru;obtain⟨its,rv,pl,hz⟩:=I.list hq;have hl:=rv.length;rw[List.length_map] at hl;have iA:IntsAre its ns:=intsAre_of rv;have nums:Nums its.toArray ns:=λ i v hv=>by
  have hv':its[i]?=some v:=by simpa using hv
  have hi:i<ns.length:=by rw[hl];exact (List.getElem?_eq_some_iff.mp hv').1
  obtain⟨u,e1,t,e2⟩:=rv.get (i:=i) (x:=V.int ns[i]) (by simp[hi]);rw[hv'] at e1;cases e1;exact⟨ns[i],t,e2,by simp[hi]⟩
 have hh:X.A.handled=none:=I.ok.hd hc;refine RM (A:=X.A) hh pl.isList nums (by rw[List.size_toArray];omega) λ h' tk xs S U k=>?_;have kk:∀ b o,s.heap.get? b=some o->h'.get? b=some o:=λ b o e=>k b o (Heap.lt_size e) e;have hSO:=S.at;refine⟨.ref s.heap.objs.size,_,I.laid (t':=tk) (o:=.ext (yT X.w s.heap.objs.size (xs.map λ e=>Value.int e.1 e.2))) kk (Nat.le_refl _) ?_,rfl,q _ _ (xs.map (·.1)) (I.zE.fresh (Nat.le_refl _)) (bj xs) S.nd λ n=>⟨λ hn=>?_,λ hn=>?_⟩⟩
 .obtain⟨es,ep,t,St,e⟩:=id hSO;exact⟨hSO,⟨_,St.get⟩,λ h1 h2 S1 k=>S1.t5 k⟩
 .obtain⟨e,he,rfl⟩:=List.mem_map.mp hn;obtain⟨j,_,hj⟩:=U.own e he;exact List.mem_of_getElem? hj
 .obtain⟨j,hj⟩:=List.mem_iff_getElem?.mp hn;exact U.all j n (by have:=(List.getElem?_eq_some_iff.mp hj).1;rw[List.size_toArray];omega) hj
theorem RG (hc:X.calm=true):yK X (.builtin "sorted") (λ xs H Q=>∃ l us,∃ ms:List Int,xs=[.ref l]/\H l=some (.ext (yT X.w l us))/\IntsAre us ms/\ms.length<64/\
  ∀ (p:Addr) (ns:List Int),H p=none->ns.Perm ms->ns.Pairwise (·<=·)->Q (.ref p) (upd H p (.lst (ns.map V.int)))):=by
 intro pins s σ H xs us0 Q I r h;obtain⟨l,us,ms,rfl,hl,hm,h64,q⟩:=h;obtain⟨u,rfl,ru⟩:=vals1 r;cases ru;obtain⟨⟨es,ep,t,S,eu⟩,-,-⟩:=(show xm X.prog X.w H s.heap l (.ext (yT X.w l us)) from I.zE l _ hl)
 have hlen:es.size=us.length:=by rw[<- eu];simp
 have hml:=hm.length;have hh:X.A.handled=none:=I.ok.hd hc;have hp:((comes X.w l es ep).toList.map (·.2)).Perm us:=by rw[<- eu];exact (pB X.w l es ep).map _
 obtain⟨ms',i1,i2⟩:=TZ hp hm;have hcl:=hp.length_eq;have hl24:sizeLine=16777216:=rfl;refine eI (Out:=λ out=>∃ ns',IntsAre out.toList ns'/\ns'.Perm ms'/\ns'.Pairwise (·<=·)) hh S (by rw[hlen,hml];omega) (λ s6 h2 k=>L4.R5 i1 (by rw[hcl,<- hlen];exact h2) (by rw[hcl,hml];exact h64)) (λ h1=>⟨ms',by simpa using i1,.refl _,?_⟩) λ out h' tk p ho hs hp' k hat=>?_
 .have:ms'.length<2:=by rw[<- i1.length,hcl,<- hlen];exact h1
  match ms',this with
  | [],_=>exact .nil
  | [_],_=>exact List.pairwise_singleton _ _
 .obtain⟨ns,g1,g2,g3⟩:=ho;obtain⟨e,he⟩:=hat;refine⟨.ref p,_,I.laid (t':=tk) (o:=.lst (ns.map V.int)) k hp' ?_,rfl,q p ns (I.zE.fresh hp') (g2.trans i2) g3⟩;exact⟨by rw[List.length_map,g2.length_eq,i2.length_eq];omega,out.toList,e,fX g1,by simpa using he⟩
end
end ST
namespace L5
open PySem PySem.Spec L2 L3
open PyProof.Rows hiding St
noncomputable def insI (n:Int):List Int->List Int
 | []=>[n]
 | m::l=>if n<m then n::m::l else if n=m then m::l else m::insI n l
noncomputable def wG:List Int->List Int
 | []=>[]
 | n::ns=>insI n (wG ns)
theorem iI {n k:Int}:∀ {l:List Int},k∈insI n l↔k=n\/k∈l
 | []=>by simp[insI]
 | m::l=>by
  unfold insI;split
  .simp
  .split
   .rename_i h;subst h;simp
   .rw[List.mem_cons,iI,List.mem_cons];constructor
    .rintro (h | h | h)
     .exact .inr (.inl h)
     .exact .inl h
     .exact .inr (.inr h)
    .rintro (h | h | h)
     .exact .inr (.inl h)
     .exact .inl h
     .exact .inr (.inr h)
theorem lK {k:Int}:∀ {l:List Int},k∈wG l↔k∈l
 | []=>.rfl
 | n::l=>by unfold wG;rw[iI,lK,List.mem_cons]
theorem bq {n:Int}:∀ {l:List Int},l.Pairwise (· < ·)->(insI n l).Pairwise (· < ·)
 | [],_=>List.pairwise_singleton _ _
 | m::l,h=>by
  have h':=List.pairwise_cons.mp h;unfold insI;split
  .rename_i c;refine List.pairwise_cons.mpr ⟨λ x hx=>?_,h⟩;rcases List.mem_cons.mp hx with e | e
   .rw[e];exact c
   .exact Int.lt_trans c (h'.1 x e)
  .split
   .exact h
   .rename_i c1 c2;refine List.pairwise_cons.mpr ⟨λ x hx=>?_,bq h'.2⟩;rcases iI.mp hx with e | e
    .rw[e];omega
    .exact h'.1 x e
theorem ei:∀ l:List Int,(wG l).Pairwise (· < ·)
 | []=>.nil
 | n::l=>bq (ei l)
theorem Yu {l m:List Int}(h1:l.Nodup) (h2:l.Pairwise (·<=·)) (h3:m.Pairwise (· < ·)) (h:∀ k,k∈l↔k∈m):l=m:=by
 have nm:m.Nodup:=h3.imp λ h e=>by omega
 refine L4.ik (r:=λ a b:Int=>a<=b) (λ a b p q=>by omega) ((List.perm_ext_iff_of_nodup h1 nm).mpr h) h2 (h3.imp λ h=>by omega)
section
variable {X:Cx}{K:PySem.W.Frag}{e:Expr}{tA:y6}{pos pos2 p p2:Pos}
def nC:xM:=λ ds S Q=>uA ds S Q\/∃ d,∃ ns:List Int,ds=[d]/\(∀ ts,d≠.tup ts)/\zZ d S=some (ns.map D.int)/\ns.length<64/\∀ l,S l=none->Q (.ref l) (ups S l (.lst ((wG ns).map D.int)))
noncomputable def r9:List T->Option T
 | [.lst ts]=>match uf ts with
  | some ns=>if ns.length<64 then some (.lst ((wG ns).map T.int)) else none
  | none=>mU [.lst ts]
 | _=>none
theorem bx:vS zM r9 nC:=λ S Z ys z ds Q hz hv e hq=>by
 unfold r9 at e;split at e
 .split at e
  .rename_i ns hns;split at e
   .rename_i hc;cases e;cases ng hns;obtain⟨d,rfl,h1⟩:=vw hv;obtain⟨es,h2,h3⟩:=h1.seq rfl;cases t8.mp h3;refine .inr ⟨d,ns,rfl,?_,h2,hc,λ l hl=>hq _ _ (.new hl _) (sH hz hl (t8.mpr rfl))⟩;obtain⟨_,q | ⟨a,q,_⟩,_⟩:=h1.lst <;> subst q <;> exact λ _=>nofun
   .cases e
  .exact .inl (Ss S Z _ z ds Q hz hv e hq)
 .cases e
theorem nC.mo:vR nC:=λ ds S Q Q' hq h=>by
 rcases h with h | ⟨d,ns,h1,h2,h3,h4,h5⟩
 .exact .inl (uA.mo ds S Q Q' hq h)
 .exact .inr ⟨d,ns,h1,h2,h3,h4,λ l hl=>hq _ _ (h5 l hl)⟩
theorem SJ {w:World}{xs:List V}{H:Hp}{S:SS}{Q:VK}{d:D}{ns:List Int}(h0:zq K H [d] xs) (h2:zN K H S) (hn:∀ ts,d≠.tup ts) (e:zZ d S=some (ns.map D.int)) (h64:ns.length<64) (h:∀ l,S l=none->wQ K H Q (.ref l) (ups S l (.lst ((wG ns).map D.int)))):
  ∃ p,∃ ns':List Int,xs=[.ref p]/\zQ K H p (ns'.map V.int)/\ns'.length<64/\
   ∀ (l:Addr) (us:List Value) (ms:List Int),H l=none->IntsAre us ms->ms.Nodup->(∀ n,n∈ms↔n∈ns')->
    ∃ l' us',∃ ms':List Int,[V.ref l]=[.ref l']/\(upd H l (.ext (ST.yT w l us))) l'=some (.ext (ST.yT w l' us'))/\IntsAre us' ms'/\ms'.length<64/\
     ∀ (p:Addr) (ns:List Int),(upd H l (.ext (ST.yT w l us))) p=none->ns.Perm ms'->ns.Pairwise (·<=·)->Q (.ref p) (upd (upd H l (.ext (ST.yT w l us))) p (.lst (ns.map V.int))):=by
 obtain⟨x,hx,h1⟩:=h0.one;subst hx;obtain⟨a,ys,rfl,g1,g2⟩:=rA h1 h2 e hn;rw[g2.ints] at g1;refine⟨a,ns,rfl,g1,h64,λ l us ms hf hi nd hmem=>⟨l,us,ms,rfl,yL,hi,?_,λ p ns2 hp pm srt=>?_⟩⟩
 .have:=ST.iC ms ns nd λ x hx=>(hmem x).mp hx;omega
 .have x1:Ext H (upd H l (.ext (ST.yT w l us))):=.new hf _;have hpl:p≠l:=λ z=>by subst z;rw[yL] at hp;cases hp
  have hpH:H p=none:=by rw[yM hpl] at hp;exact hp
  have x2:Ext (upd H l (.ext (ST.yT w l us))) (upd (upd H l (.ext (ST.yT w l us))) p (.lst (ns2.map V.int))):=.new hp _;have heq:ns2=wG ns:=Yu (pm.nodup_iff.mpr nd) srt (ei ns) λ k=>by rw[pm.mem_iff,hmem,lK]
  refine h p (h2.none hpH) _ _ (by simp only[zg]) (x1.trans x2) ((h2.new hf).ups x2 ⟨_,yL,?_⟩);rw[<- heq];exact zq.i8 ns2
theorem dQ {k:Nat}(hr:y9 k X.A) (hm:X.mg "sorted"=none) (hm2:X.mg "set"=none) (ha:xO X [e] tA) (hc:X.calm=true:=by rfl) (hg:Gl X "sorted":=by rfl) (hg2:Gl X "set":=by rfl)
  (he2:starEach [e] X.env=(false,eval e X.env)::starEach [] X.env:=by rfl)
  (he:starEach [.Call (.Name "set" p2) [e] [] pos2] X.env=(false,eval (.Call (.Name "set" p2) [e] [] pos2) X.env)::starEach [] X.env:=by rfl) (hpl:(backTo pos (starEach [] X.env)).any (·.1)=false:=by rfl) (hpl2:(backTo pos2 (starEach [] X.env)).any (·.1)=false:=by rfl):
  PD X (.Call (.Name "sorted" p) [.Call (.Name "set" p2) [e] [] pos2] [] pos) (xK nC tA):=by
 have h:=tB (p:=p) (yK.or (ST.RH hc) (ST.RG hc)) hg hm boot_sorted (rH (qI (yK.or (ST.RJ hc hr.units) (ST.RK hc)) hg2 hm2 PyProof.Rows.boot_set ha.pa (by decide) (by decide) he2 hpl2) qP he) (by decide) (by decide) he hpl;refine⟨xK.mo nC.mo ha.mo,PE.imp h fun σ H Q hu=>?_⟩;obtain⟨δ,S,r1,r2,z⟩:=hu;refine wH.go ha.mo r1 r2 z λ ds S1 xs H1 h1 q1 e1 p1=>?_;rcases h1 with h1 | ⟨d,ns,rfl,c1,c2,c3,h1⟩
 .obtain⟨p,ys,rows,a1,a2,a3,a4,a5⟩:=uA.fits (w:=X.w) xs ds H1 S1 Q q1 p1 (uA.mo ds S1 _ _ (λ d S' z=>z.ext e1) h1);exact .inl ⟨p,ys,rows,a1,a2,a3,a4,λ l us vs rs b1 b2 b3=>.inl (a5 l us vs rs b1 b2 b3)⟩
 .obtain⟨p,ns',a1,a2,a3,a4⟩:=SJ (w:=X.w) q1 p1 c1 c2 c3 (λ l hl=>(h1 l hl).ext e1);exact .inr ⟨p,ns',a1,a2,a3,λ l us ms b1 b2 b3 b4=>.inr (a4 l us ms b1 b2 b3 b4)⟩
end
end L5
namespace HT
open PySem PyProof.Rows
section
variable {prog:Program}{w:World}{A:Around}{E:Value->Shared->Prop}{s:Shared}
end
end HT
namespace L2
open PySem PySem.Spec PyProof.Rows
section
variable {X:Cx}{e st:Expr}{te:TE}{pos p2:Pos}
end
end L2
namespace L5
open PySem PySem.Spec L2 L3
open PyProof.Rows hiding St
section
variable {X:Cx}{K:PySem.W.Frag}{e st:Expr}{te:zC}{pos p2 p3 p4:Pos}
noncomputable def i9:Sm:=λ _=>none
def aq:yP:=λ _ _ _=>False
theorem dN {st:Stmt}:vq X st aq:=⟨λ _ _ _ _ _ h=>h.elim,λ _ _ _ _ _ _ ⟨_,_,_,_,h⟩=>h.elim⟩
theorem ck {R:Rk}:yv R i9 aq:=λ S0 Z0 S Z δ ρ o E F e P=>by cases e
end
end L5
namespace L5
open PySem L2 L3
theorem b6:Good2 zM rS kd:=nu (λ _ _ _=>wI) λ _ _ _=>nofun
end L5
namespace L5
open PySem PySem.Spec L2 L3
open PyProof.Rows hiding St
section
variable {X:Cx}{e:Expr}{te:zC}{pos p q:Pos}
theorem Vh (T:Bt X.mg) (he:PD X e te) (hg:Gl X "isinstance":=by rfl) (hg2:Gl X "list":=by rfl) (h1:starEach (e::[.Name "list" q]) X.env=(false,eval e X.env)::starEach [.Name "list" q] X.env:=by rfl) (h2:(backTo pos (starEach [.Name "list" q] X.env)).any (·.1)=false:=by rfl) (h3:starEach [.Name "list" q] X.env=(false,eval (.Name "list" q) X.env)::starEach [] X.env:=by rfl):
  PD X (.Call (.Name "isinstance" p) [e,.Name "list" q] [] pos) (p9 "list" te):=l8 (by simp) T.isinstance T.list PyProof.Rows.boot_list hg2 (by decide) (by decide) he hg h1 h2 h3
end
end L5
namespace L3
open PySem PyProof.Rows L2
section
variable {X:Cx}{pos:Pos}
noncomputable def wE (E:sj) (W:Nat->yn->SS->Prop) (m:Nat):sj:={ E with nx:=fun δ' S'=>∃ m',m'<m/\W m' δ' S',ct:=fun δ' S'=>∃ m',m'<m/\W m' δ' S',bk:=E.nx }
def nL (c:yJ) (tb:yP):yP:=λ E δ S=>∃ W:Nat->yn->SS->Prop,(∃ m,W m δ S)/\∀ m δ S,W m δ S->
 c δ S λ b S1=>if b=true then tb (wE E W m) δ S1 else E.nx δ S1
theorem nL.mo {c:yJ}{tb:yP}(hc:wW c) (hb:tw tb):tw (nL c tb):=λ E E' δ S hE ⟨W,w0,ws⟩=>
 ⟨W,w0,λ m δ S hw=>hc δ S _ _ (λ b S1 z=>vb (λ z=>hb (wE E W m) (wE E' W m) δ S1 ⟨λ _ _ q=>q,hE.rt,hE.nx,λ _ _ q=>q⟩ z) (λ z=>hE.nx _ _ z) z) (ws m δ S hw)⟩
theorem dM {c:Expr}{body:List Stmt}{tc:yJ}{tb:yP}(hp:PassesOwn (model X.prog X.w) X.A X.env X.xe) (hc:xN X c tc) (hb:vQ X body tb):vq X (.While c body [] pos) (nL tc tb):=by
 refine⟨nL.mo hc.mo hb.mo,PS.imp (XX hp hc.pt hb.ps) λ D σ H hu=>?_⟩;obtain⟨δ,S,r1,r2,W,⟨m0,w0⟩,ws⟩:=hu;refine⟨λ m σ' H'=>Ext H H'/\∃ δ S,xa X.K H' δ σ'/\zN X.K H' S/\W m δ S,⟨m0,.refl _,δ,S,r1,r2,w0⟩,?_⟩;rintro m σ2 H2 ⟨x2,δ2,S2,q1,q2,w2⟩;refine w9.go hc.mo q1 q2 (ws m δ2 S2 w2) λ k S3 H3 h3 e3 p3=>vb (λ z=>?_) (λ z=>?_) h3
 .refine⟨fun σ' H'=>Ext H H'/\∃ δ S m',m'<m/\xa X.K H' δ σ'/\zN X.K H' S/\W m' δ S,fun σ' H' ⟨a,δ',S',m',b,c,d,e⟩=>⟨m',b,a,δ',S',c,d,e⟩,δ2,S3,q1.ext e3,p3,?_⟩;exact hb.mo (wE (tf X.K H D) W m) _ δ2 S3 ⟨fun δ5 S5 ⟨m',b,w5⟩ σ5 H5 b1 b2 b3=>⟨(x2.trans e3).trans b2,δ5,S5,m',b,b1,b3,w5⟩,λ _ _ q=>wQ.ext (x2.trans e3) q,λ _ _ q=>vd.ext (x2.trans e3) q,fun δ5 S5 ⟨m',b,w5⟩ σ5 H5 b1 b2 b3=>⟨(x2.trans e3).trans b2,δ5,S5,m',b,b1,b3,w5⟩⟩ z
 .exact z σ2 H3 (q1.ext e3) (x2.trans e3) p3
end
end L3
namespace L5
open PySem PyProof.Rows L2 L3
noncomputable def wC (is:List Nat) (c:Ev->Option Bool) (b:Sm):Nat->Ev->Option Out
 | 0,_=>none
 | n+1,ρ=>(c (yS is ρ)).bind λ k=>if k=true then (b (yS is ρ)).bind λ o=>match o with
   | .nx ρ2=>wC is c b n ρ2
   | .ct ρ2=>wC is c b n ρ2
   | .bk ρ2=>some (.nx (yS is ρ2))
   | .rt t=>some (.rt t)
  else some (.nx (yS is ρ))
noncomputable def pW (n:Nat) (is:List Nat) (c:Ev->Option Bool) (b:Sm):Sm:=wC is c b n
theorem cj {R:Rk} [Lo R] {n:Nat}{is:List Nat}{c:Ev->Option Bool}{tc:yJ}{b:Sm}{tb:yP}(hc:vh c tc) (hb:yv R b tb):yv R (pW n is c b) (nL tc tb):=λ S0 Z0 S Z δ ρ o E F e P=>by
 obtain⟨SB,b1,FB,b2⟩:=F.rebase;have lo:∀ S' d y,R SB S' Z0 y d->R S0 S' Z0 y d:=λ S' d y r=>Lo.lo b1 (λ _ z=>z) r;refine⟨λ m δ' S'=>∃ Z' ρ',FR SB Z0 S' Z' δ' ρ'/\wC is c b m ρ'=some o,⟨n,Z,ρ,FB,e⟩,λ m δ' S' ⟨Z',ρ',F',e'⟩=>?_⟩;cases m with
 | zero=>cases e'
 | succ m=>
  unfold wC at e';obtain⟨k,c1,e'⟩:=zOb e';have G:=F'.yS is;refine hc S' Z' δ' _ k _ G.er c1 λ S3 s3=>?_;cases k with
  | true=>
   rw[if_pos rfl] at e' ⊢;obtain⟨o1,g2,e'⟩:=zOb e';refine hb SB Z0 S3 Z' δ' _ o1 _ (G.grow s3) g2 ?_;cases o1 with
   | nx ρ2=>exact λ S3 Z3 δ3 F3=>⟨m,Nat.lt_succ_self m,Z3,ρ2,F3,e'⟩
   | ct ρ2=>exact λ S3 Z3 δ3 F3=>⟨m,Nat.lt_succ_self m,Z3,ρ2,F3,e'⟩
   | bk ρ2=>cases e';exact λ S3 Z3 δ3 F3=>P S3 Z3 δ3 ((F3.yS is).back b1 F.z0)
   | rt y=>cases e';exact λ d S3 s3 r3=>P d S3 (b1.trans s3) (lo _ _ _ r3)
  | false=>
   rw[if_neg (by decide)] at e' ⊢;cases e';exact P S3 Z' δ' ((G.grow s3).back b1 F.z0)
end L5
namespace ZP
open PySem PyProof.Rows
set_option maxRecDepth 100000
theorem UX (k:Bool) (l:Addr) (xs:Array Value):Meets (Builtin.«enumerate.__new__» ⟨[.type "enumerate",.ref l],[]⟩) (λ _ R s=>SQ s.heap k l xs/\
   R (.ok (.ret (.ref (s.heap.push (vC k l)).objs.size))) { s with heap:=(s.heap.push (vC k l)).push { cls:=.type "enumerate",data:=.fields #[.none,.bool false,.ref s.heap.objs.size,rawInt 0,.none,.none] } }):=
 .of_wp λ prog w A R s h=>by
  obtain⟨hp,g,d,tk,os⟩:=s;obtain⟨q,h⟩:=h;have hsub:=sub_enumerate;have hL:SQ (Shared.heap ⟨hp,g,d,tk,os⟩) k l xs:=q;obtain⟨⟨c,yg,dt,sl⟩,hl,hc⟩:=q.cls;replace hc:c=.type (cond k "tuple" "list"):=hc;subst hc
  wp_walk using AutoSeq1.wpAny_loadPart' hl
  refine wpAny_stack_any λ st=>wpAny_pure ?_;split
  .rename_i c _ _ _ _ _;cases (c == Value.type "enumerate")
   .wp_walk using AutoSeq1.wpAny_loadPart' hl,made hL
    exact⟨_,rfl,h⟩
   .wp_walk using AutoSeq1.wpAny_loadPart' hl,made hL
    exact⟨_,rfl,h⟩
  .wp_walk using AutoSeq1.wpAny_loadPart' hl,made hL
   exact⟨_,rfl,h⟩
section
variable {prog:Program}{w:World}{A:Around}{E:Value->Shared->Prop}{s:Shared}
theorem Rb {k:Bool}{l:Addr}{xs:Array Value}{Q:Value->Shared->Prop}(hL:SQ s.heap k l xs)
  (h:∀ h',IsEnum h' (s.heap.objs.size+1) s.heap.objs.size 0 .none->SI h' k s.heap.objs.size l 0->(∀ b o,s.heap.get? b=some o->h'.get? b=some o)->Q (.ref (s.heap.objs.size+1)) { s with heap:=h' }):
  wpAny (model prog w) A (call (.type "enumerate") [.ref l]) Q E s:=by
 refine callType_new F.called_enumerate (by decide) (F.typeCall_enumerate_1 _) (F.newCall_enumerate_1 _) (λ obj=>F.args_object_init_2 obj _) F.entry_enumerate_new (UX k l xs) ⟨hL,?_⟩;have hz:(s.heap.push (vC k l)).objs.size=s.heap.objs.size+1:=Heap.size_push ..;show _/\_;rw[hz];have he:IsEnum ((s.heap.push (vC k l)).push { cls:=.type "enumerate",data:=.fields #[.none,.bool false,.ref s.heap.objs.size,rawInt 0,.none,.none] }) (s.heap.objs.size+1) s.heap.objs.size 0 .none:=by
  have:=Heap.get?_push_size (s.heap.push (vC k l)) (o:={ cls:=.type "enumerate",data:=.fields #[.none,.bool false,.ref s.heap.objs.size,rawInt 0,.none,.none] }) rfl;rw[hz] at this;exact this
 exact⟨⟨_,he,rfl⟩,h _ he ⟨_,zHp _ (Heap.get?_push_size _ rfl),rfl,rfl⟩ λ b o x=>zHp _ (zHp _ x)⟩
theorem Rm (hh:A.handled=none) (k:Bool) (it l:Addr) (hne:l≠it) (xs:Array Value):Draws prog w A it [it,l] xs.size (λ i v=>xs[i]?=some v) (λ i h=>SI h k it l i/\SQ h k l xs) where
 live:=λ _ _ st=>let ⟨o,ho,_⟩:=st.1;⟨o,ho⟩
 frame:=λ _ _ _ st hk=>⟨st.1.on λ o e=>hk it (by simp) o e,st.2.on λ o e=>hk l (by simp) o e⟩
 item:=λ i s Q E hi st hQ=>draw st.1 st.2 (x:=xs[i]) (by simp[hi]) λ h' hit' hs'=>hQ _ h' s.toks (by simp[hi]) ⟨hit',st.2.on λ o e=>(hs'.2 l hne).trans e⟩ hs'
 done:=λ s Q E st hE=>kh hh st.1 st.2 (by simp) hE
end
end ZP
namespace L2
open PySem PySem.Spec PyProof.Rows ZP
section
variable {X:Cx}{pins:List (Addr×Obj)}{σ:St}{H:Hp}{s:Shared}
def Zl (K:PySem.W.Frag) (k:Bool) (a:Addr):It:=
 ⟨λ i H=>∃ xs x,wx K H k a xs/\xs[i]?=some x,
   λ i H v H'=>∃ p x,v=.ref p/\H p=none/\H'=upd H p (.tup [.int i,x])/\∀ xs,wx K H k a xs->xs[i]?=some x,
   λ i H=>∃ xs,wx K H k a xs/\xs.length<=i⟩
theorem Y5 {P:Program}{w:World}{K:PySem.W.Frag}{es:List Expr}{kk} {pos:Pos}{k:Bool}{e it a:Addr}(hei:e≠it) (hea:e≠a) (hai:a≠it):
  Turn P w K (.Tuple es kk pos) (Zl K k a) [e,it] e (λ i h=>(∃ old,IsEnum h e it i old)/\SI h k it a i) where
 mem:=by simp
 obj:=λ i h st b hb=>by
  obtain⟨⟨old,q1⟩,o1,q2,_,d1⟩:=st;simp only[List.mem_cons,List.not_mem_nil,or_false] at hb;rcases hb with e | e <;> subst e
  .exact⟨_,q1,λ v z=>by cases z⟩
  .exact⟨_,q2,λ v z=>by rw[d1] at z;cases z⟩
 keep:=λ i h h' st k=>⟨let ⟨old,q⟩:=st.1;⟨old,k e (by simp) _ q⟩,st.2.on λ o q=>k it (by simp) o q⟩
 item:=by
  intro X hP hw hK hc i pins s σ H E I hf st hg;subst hP hw hK;obtain⟨xs,x,g1,hx⟩:=hg;obtain⟨its,rv,q1⟩:=g1.of I;obtain⟨u1,e1,r1⟩:=rv.get hx;obtain⟨⟨old,he⟩,si⟩:=st;have hlt:i<its.toArray.size:=by have:=(List.getElem?_eq_some_iff.mp e1).1;simpa using this
  have D:=Rm (prog:=X.prog) (w:=X.w) (A:=X.A.in1) (show X.A.in1.handled=none from I.ok.hd hc) k it a hai its.toArray;refine wpAny_pyNext_enum_itemD D he ⟨si,q1⟩ hlt hei (by simp[hei,hea]) λ u h' tk hP ho hs' hT hsz hk=>⟨_,rfl,?_⟩;have hu:u=u1:=by simp only[List.getElem?_toArray,e1] at hP;exact (Option.some.inj hP).symm
  subst hu;have nT:s.heap.objs.size∉[e,it]:=λ hb=>by
   simp only[List.mem_cons,List.not_mem_nil,or_false] at hb;obtain⟨oi,qi,_⟩:=si;rcases hb with z | z
   .exact absurd (Heap.lt_size he) (by rw[<- z];exact Nat.lt_irrefl _)
   .exact absurd (Heap.lt_size qi) (by rw[<- z];exact Nat.lt_irrefl _)
  have ne:s.heap.objs.size≠e:=λ z=>nT (by simp[z]);refine wpAny_letOwnedTupleGo_enum ho λ h2 he2 sb=>?_;have fr:H s.heap.objs.size=none:=I.zE.fresh (Nat.le_refl _);have I1:Inv X pins σ (upd H s.heap.objs.size (.tup [.int i,x])) { s with heap:=s.heap.push { cls:=.type "tuple",data:=.seq [.int i tk,u].toArray },toks:=s.toks }:=
   I.laid (o:=.tup [.int i,x]) (λ b u q=>zHp _ q) (Nat.le_refl _) ⟨by show 2<=sizeLine;decide,[.int i tk,u],.cons ⟨tk,rfl⟩ (.cons r1 .nil),IsTup.new _ _⟩
  have hf':∀ b∈[e,it],upd H s.heap.objs.size (.tup [.int i,x]) b=none:=λ b hb=>by
   rw[yM (λ z=>nT (by rw[<- z];exact hb))];exact (hf b hb).1
  have kk:∀ b o,b∉[e,it]->(s.heap.push { cls:=.type "tuple",data:=.seq [.int i tk,u].toArray }).get? b=some o->h2.get? b=some o:=λ b o hb q=>by
   have hbe:b≠e:=λ z=>hb (by simp[z]);have hbi:b≠it:=λ z=>hb (by simp[z]);by_cases hbs:b=s.heap.objs.size
   .subst hbs;rw[Heap.get?_push_size _ rfl] at q;cases q;exact sb.extBut _ _ hbe hT
   .have q':s.heap.get? b=some o:=by rw[Heap.get?_push_ne _ _ _ hbs] at q;exact q
    exact sb.extBut _ _ hbe (hk b o hbe hbi q')
  have I2:=Inv.mO (h':=h2) (t':=tk+1) (fp:=[e,it]) I1 kk λ b hb=>⟨hf' b hb,(hf b hb).2⟩;refine⟨.ref s.heap.objs.size,_,I2,rfl,⟨_,x,rfl,fr,rfl,λ zs hz=>by rw[hz.inj I g1];exact hx⟩,⟨⟨_,by simpa using he2⟩,hs'.1.on λ o q=>(sb.2 it (Ne.symm hei)).trans q⟩,hf'⟩
 done:=by
  intro X hP hw hK hc i pins s σ H E I hf st hg;subst hP hw hK;obtain⟨xs,g1,hx⟩:=hg;obtain⟨its,rv,q1⟩:=g1.of I;have l1:=rv.length;obtain⟨⟨old,he⟩,si⟩:=st;have hT:s.TypeIs (.ref e) "enumerate":=⟨_,he,rfl⟩
  unfold pyNext;refine zWb (wpAny_attempt (wpAny_callSpecial?_slot (name:=Str.ofString "__next__") hT F.slot_enumerate_next
   (wpAny_call_entry F.slot_enumerate_next hT F.entry_enumerate_next ?_ (F.args_enumerate_next_1 _))))
  show wpAny _ _ (field (.ref e) 2 >>= _) _ _ _;refine zWb (wpAny_field he rfl (x:=.ref it) rfl ?_);refine zWb (kh (show X.A.in1.handled=none from I.ok.hd hc) si q1 (by simp;omega) λ h' x he' hx'=>?_);obtain⟨o,ho,hc⟩:=hx';refine zWb (wpAny_isInstance (T:="StopIteration") (b:=true) ⟨o,ho,hc⟩ isSubtype_stop ?_);exact wpAny_pure ⟨rfl,I.mO (t':=s.toks) (fp:=[e,it]) (λ b o hb q=>he' b o (λ z=>hb (by simp[z])) q) hf⟩
 self:=λ _ _ _ _ _ st h=>let ⟨_,q⟩:=st.1;wpAny_pyIter_enum q h
def Sf (K:PySem.W.Frag) (ta:TA):TI:=fun σ H R=>ta σ H λ vs H1=>∃ a k,vs=[.ref a]/\(∃ xs,wx K H1 k a xs)/\R (Zl K k a) H1
theorem Wo {a:Expr}{ta:TA}{p pos pos':Pos}{es:List Expr}{kk} (hg:Gl X "enumerate") (hm:X.mg "enumerate"=none) (ha:PA X [a] ta) (hs:starEach [a] X.env=[(false,eval a X.env)]:=by rfl):
  PI X (.Tuple es kk pos') (.Call (.Name "enumerate" p) [a] [] pos) (Sf X.K ta):=by
 intro pins s σ H R I h;refine Call_ (qT I hg hm boot_enumerate (PyProof.Rows.callWith_type1 (zK (ha pos pins s σ H _ I h) λ us s1 ⟨vs,H1,I1,r1,q1⟩=>?_) (by rw[hs];rfl) rfl));obtain⟨a1,k,rfl,⟨xs,g1⟩,q⟩:=q1;cases r1 with
 | cons r rr=>
  cases rr;cases r;obtain⟨it1,_,q1⟩:=g1.of I1;have la:=q1.lt;refine ZP.Rb q1 λ h' E S up=>wpAny_pyIter_enum E ?_;have nw:∀ b∈[s1.heap.objs.size+1,s1.heap.objs.size],s1.heap.objs.size<=b:=λ b hb=>by
   simp only[List.mem_cons,List.not_mem_nil,or_false] at hb;rcases hb with z | z <;> rw[z]
   .exact Nat.le_succ _
   .exact Nat.le_refl _
  exact⟨_,[s1.heap.objs.size+1,s1.heap.objs.size],_,_,H1,rfl,I1.kept (t':=s1.toks) up,Y5 (Nat.succ_ne_self _) (Nat.ne_of_gt (Nat.lt_succ_of_lt la)) (Nat.ne_of_lt la),⟨⟨_,E⟩,S⟩,λ b hb=>I1.lZ (nw b hb) (I1.zE.fresh (nw b hb)),q⟩
end
end L2
namespace L5
open PySem PySem.Spec L2 L3
open PyProof.Rows hiding St
noncomputable def u_ (k:Nat):List D->List D
 | []=>[]
 | d::ds=>.tup [.int k,d]::u_ (k+1) ds
noncomputable def sV (k:Nat):List T->List T
 | []=>[]
 | d::ds=>.tup [.int k,d]::sV (k+1) ds
theorem bV:∀ (ds:List D) (k i:Nat),(u_ k ds)[i]?=(ds[i]?).map λ d=>D.tup [.int ((k+i:Nat):Int),d]
 | [],k,i=>by simp[u_]
 | d::ds,k,0=>by simp[u_]
 | d::ds,k,i+1=>by
  unfold u_;rw[List.getElem?_cons_succ,List.getElem?_cons_succ,bV ds (k+1) i,show k+1+i=k+(i+1) from by omega]
theorem bU:∀ (ds:List D) (k:Nat),(u_ k ds).length=ds.length
 | [],k=>rfl
 | d::ds,k=>by unfold u_;rw[List.length_cons,bU ds];rfl
theorem eO {S:SS}:∀ {ts:List T}{ds:List D}(k:Nat),zo S ts ds->zo S (sV k ts) (u_ k ds)
 | [],ds,k,h=>by simp only[zo] at h;subst h;exact zo.nil
 | t::ts,ds,k,h=>by
  simp only[zo] at h;obtain⟨c,cs,rfl,h1,h2⟩:=h;exact zo.cons (qA (zo.cons (by simp only[Sn]) (zo.cons h1 zo.nil))) (eO (k+1) h2)
section
variable {X:Cx}{K:PySem.W.Frag}{a:Expr}{tA:y6}{pos p pos':Pos}{es:List Expr}{kk:Nat}
def cU (t:y6):wR:=fun δ S R=>t δ S λ ds S1=>∃ d xs,ds=[d]/\zZ d S1=some xs/\R ⟨u_ 0 xs,λ S=>zZ d S=some xs⟩ S1
theorem dP (hm:X.mg "enumerate"=none) (ha:xO X [a] tA) (hg:Gl X "enumerate":=by rfl) (hs:starEach [a] X.env=[(false,eval a X.env)]:=by rfl):
  rf X (.Tuple es kk pos') (.Call (.Name "enumerate" p) [a] [] pos) (cU tA):=by
 refine⟨fun δ S Q Q' hq z=>ha.mo δ S _ _ (λ ds S1 ⟨d,xs,h1,h2,h4⟩=>⟨d,xs,h1,h2,hq _ _ h4⟩) z,PI.imp (Wo hg hm ha.pa hs) fun σ H R hu=>?_⟩;obtain⟨δ,S,r1,r2,z⟩:=hu;refine wH.go ha.mo r1 r2 z λ ds S1 vs H1 h1 q1 e1 p1=>?_;obtain⟨d,xs,rfl,s1,h⟩:=h1;obtain⟨v,rfl,d1⟩:=q1.one;obtain⟨a1,us,rfl,g1,g2⟩:=zZ.k d1 p1 s1;refine⟨a1,oY d,rfl,⟨us,g1⟩,h _ H1 e1 p1 λ i H2 S2 x1 x2 hk=>?_⟩;obtain⟨b1,us2,q1,m1,m2⟩:=zZ.k (zg.ext x1 d d1) x2 hk;cases q1;have l1:=m2.length;refine⟨λ dd hd=>?_,λ hl=>⟨us2,m1,?_⟩⟩
 .rw[bV,Nat.zero_add] at hd;obtain⟨dx,hx,rfl⟩:=zOm hd;obtain⟨x,hx',rx⟩:=m2.get hx;refine⟨⟨us2,x,m1,hx'⟩,λ v H' q=>?_⟩;obtain⟨pp,x',rfl,hp,rfl,f1⟩:=q;have ex:x'=x:=by have:=f1 _ m1;rw[hx'] at this;exact (Option.some.inj this).symm
  subst ex;refine⟨.new hp _,x2.new hp,?_⟩;simp only[zg];exact⟨pp,_,rfl,yb.of yL,zq.ext (.new hp _) _ (.cons (by simp only[zg]) (.cons rx .nil))⟩
 .have hl':(u_ 0 xs).length<=i:=hl;rw[bU] at hl';omega
@[simp] noncomputable def sW:List T->Option (List T)
 | [x]=>(xS x).map λ xs=>sV 0 xs
 | _=>none
theorem cn {g:Ev->Option (List T)}(h:qm g tA):ql false (vD sW g) (cU tA):=λ S Z δ ρ ts Q hE e hq=>by
 obtain⟨ys,e1,e2⟩:=zOb e;refine h S Z δ ρ ys _ hE e1 λ ds S1 s1 r1=>?_;unfold sW at e2;split at e2
 .obtain⟨xs,e3,rfl⟩:=zOm e2;obtain⟨d,rfl,h1⟩:=vw r1;obtain⟨es,g1,g2⟩:=h1.seq e3;exact⟨d,es,rfl,g1,hq _ S1 s1 (eO 0 g2) λ S'' s=>zZ.sx g1 s⟩
 .cases e2
end
end L5
namespace TM
open PySem PyProof.Rows
set_option maxRecDepth 100000
theorem Rw (i:Int) (t:Tok) (l:Addr) (items:Array Value) (n:Nat) (dd:Option Addr) (sl:Array (Option Value)):
  Meets (Builtin.«int.__rmul__» ⟨[.int i t,.ref l],[]⟩) (λ _ R s=>s.heap.get? l=some { cls:=.type "list",dict:=dd,data:=.seq items n,slots:=sl }/\R (.ok (.ret Value.notImplemented)) s):=
 .of_wp λ prog w A R s h=>by
  obtain⟨hp,g,d,tk,os⟩:=s;obtain⟨hl,h⟩:=h
  wp_walk
  exact⟨_,rfl,h⟩
theorem mulL (l:Addr) (items:Array Value) (n:Nat) (x:Int) (u:Tok) (dd:Option Addr) (sl:Array (Option Value)) (hc0:¬(!Builtin.List.listFitsIndex x)=true) (hc1:¬items.size*x.toNat>(2 ^ 63-1)/8) (hc2:¬Builtin.List.listTooLong (items.size*x.toNat)=true):
  Meets (Builtin.«list.__mul__» ⟨[.ref l,.int x u],[]⟩) (λ _ R s=>s.heap.get? l=some { cls:=.type "list",dict:=dd,data:=.seq items n,slots:=sl }/\R (.ok (.ret (Value.ref s.heap.objs.size))) { s with heap:=s.heap.push { cls:=.type "list",data:=.seq (List.foldl (λ x1 x2=>x1++x2) #[] (List.replicate (if items.isEmpty=true then 0 else x.toNat) items)) } }):=
 .of_wp λ prog w A R s h=>by
  obtain⟨hp,g,d,tk,os⟩:=s;obtain⟨hl,h⟩:=h;have hsz:=AutoListH.joined_fits hc2
  wp_walk;refine wpAny_ite_false (decide_eq_false (Nat.not_lt.mpr hsz)) ?_;wp_walk;exact⟨_,rfl,h⟩
section
variable {prog:Program}{w:World}{A:Around}{E:Value->Shared->Prop}{s:Shared}
theorem Y9 {l:Addr}{its:List Value}{k:Int}{t:Tok}{Q:Value->Shared->Prop}(ht:PlainL s.heap l its.toArray) (hne:its≠[]) (h0:0<=k) (hz:its.length*k.toNat<=sizeLine)  (hk:k<=1000000)
  (more:Q (.ref s.heap.objs.size) { s with heap:=s.heap.push { cls:=.type "list",data:=.seq (List.replicate k.toNat its).flatten.toArray } }):
  wpAny (model prog w) A (binaryOp .Mult (.ref l) (.int k t)) Q E s:=by
 obtain⟨⟨cls,dd,data,sl⟩,n,ho,hc,he,hd⟩:=id ht;simp only at hc hd he;subst hc hd he;have hl:sizeLine=16777216:=rfl;have hem:its.toArray.isEmpty=false:=by cases its with
  | nil=>exact absurd rfl hne
  | cons a r=>rfl
 have hf:List.foldl (λ x1 x2=>x1++x2) #[] (List.replicate (if its.toArray.isEmpty=true then 0 else k.toNat) its.toArray)=(List.replicate k.toNat its).flatten.toArray:=by
  rw[hem,if_neg (by decide)];have:=gk its k.toNat #[];simpa using this
 refine wpAny_binaryOp_repeat_ref (T:="list") (U:="int") (by decide) ⟨_,ho,rfl⟩ (λ s'=>typeIs_int s' k t) noFill_list_mul F.fills_int_mul F.slot_int_rmul repeat_list F.slot_int_index.lookup
  (call_meets F.slot_int_rmul (typeIs_int s k t) F.entry_int_rmul (F.args_int_rmul_2 _ _) (Rw k t l its.toArray n none sl)
   ⟨ho,rfl,⟨_,ho,rfl⟩,call_meets F.slot_list_mul ⟨_,ho,rfl⟩ F.entry_list_mul (F.args_list_mul_2 _ _)
    (mulL l its.toArray n k t none sl (by simp[Builtin.List.listFitsIndex];omega) (by simp;omega) (by simp[Builtin.List.listTooLong];omega)) ⟨ho,?_⟩⟩)
 rw[hf];exact more
end
end TM
namespace L2
open PySem PySem.Spec PyProof.Rows
def jX (K:PySem.W.Frag):R2:=λ x y H Q=>∃ a k xs,x=.ref a/\y=.int k/\zQ K H a xs/\xs≠[]/\0<=k/\k<=1000000/\xs.length*k.toNat<=sizeLine/\∀ p,H p=none->Q (.ref p) (upd H p (.lst (List.replicate k.toNat xs).flatten))
theorem V5 {X:Cx}:yr X (binaryOp .Mult) (jX X.K):=by
 intro pins s σ H x y v u Q I rx ry h;obtain⟨a,k,xs,rfl,rfl,hx,hne,h1,h2,hz,q⟩:=h;cases rx;obtain⟨t,rfl⟩:=ry;obtain⟨its,r,ht,_⟩:=I.list hx;have hl:=r.length;refine TM.Y9 ht (λ z=>hne (r.oS.mp z)) h1 (by rw[<- hl];exact hz) h2 ?_;have hlen:(List.replicate k.toNat xs).flatten.length<=sizeLine:=by
  have:(List.replicate k.toNat xs).flatten.length=k.toNat*xs.length:=by simp
  rw[this,Nat.mul_comm];exact hz
 exact⟨.ref _,_,I.laid (t':=s.toks) (o:=.lst (List.replicate k.toNat xs).flatten) (λ b ob q=>zHp _ q) (Nat.le_refl _) ⟨hlen,_,0,r.rep k.toNat,Heap.get?_push_size _ rfl⟩,rfl,q _ (I.zE.fresh (Nat.le_refl _))⟩
end L2
namespace L5
open PySem PySem.Spec L2 L3
open PyProof.Rows hiding St
section
variable {X:Cx}{K:PySem.W.Frag}{a b:Expr}{ta tb:zC}{pos:Pos}
noncomputable def TH:D->Bool
 | .tup _=>true
 | _=>false
def kc:yU:=λ x y S Q=>∃ k ds,y=.int k/\TH x=false/\zZ x S=some ds/\(ds≠[]/\0<=k/\k<=1000000/\ds.length*k.toNat<=sizeLine)/\∀ p,S p=none->Q (.ref p) (ups S p (.lst (List.replicate k.toNat ds).flatten))
def sT:yU:=λ x y S Q=>uX x y S Q\/kc x y S Q
noncomputable def wg:T->T->Option T
 | .lst ts,.int k=>if ts≠[]/\0<=k/\k<=1000000/\ts.length*k.toNat<=sizeLine then some (.lst (List.replicate k.toNat ts).flatten) else none
 | x,y=>iG x y
theorem sT.mo:xP sT:=λ x y S Q Q' hq h=>by
 rcases h with h | ⟨k,ds,h1,h2,h3,h4,h5⟩
 .exact .inl (uX.mo x y S Q Q' hq h)
 .exact .inr ⟨k,ds,h1,h2,h3,h4,λ p hp=>hq _ _ (h5 p hp)⟩
theorem kc.fits:xJ K kc (jX K):=λ x y d e H S Q h1 h2 h3 h=>by
 obtain⟨k,ds,rfl,ht,hs,⟨c1,c2,c3,c4⟩,h⟩:=h;simp only[zg] at h2;obtain⟨a,xs,rfl,g1,g2⟩:=rA h1 h3 hs λ ts z=>by subst z;cases ht
 have hl:=g2.length;refine⟨a,k,xs,rfl,h2,g1,λ z=>c1 (by subst z;cases ds with | nil=>rfl | cons _ _=>simp at hl),c2,c3,by rw[<- hl];exact c4,λ p hp=>?_⟩;exact h p (h3.none hp) _ _ (by simp only[zg]) (.new hp _) (h3.ups (.new hp _) ⟨_,yL,zq.ext (.new hp _) _ (zq.rep g2 _)⟩)
theorem sT.fits:xJ K sT (λ x y H Q=>(rI wz (λ i j=>.int (i*j)) x y H Q\/jW K x y H Q)\/jX K x y H Q):=λ x y d e H S Q h1 h2 h3 h=>by
 rcases h with h | h
 .exact .inl (uX.fits x y d e H S Q h1 h2 h3 h)
 .exact .inr (kc.fits x y d e H S Q h1 h2 h3 h)
theorem pd:Good2 zM wg sT:=λ S Z x y z d e Q hz hx hy ef hq=>by
 unfold wg at ef;split at ef
 .rename_i ts k;split at ef
  .rename_i hc;cases ef;obtain⟨ds,g1,g2⟩:=hx.seq (ts:=ts) rfl;cases hy.int;have hl:=g2.len;refine .inr ⟨_,ds,rfl,?_,g1,⟨λ q=>hc.1 (by subst q;simpa using hl.symm),hc.2.1,hc.2.2.1,by rw[hl];exact hc.2.2.2⟩,λ p hp=>hq _ _ (.new hp _) (sH hz hp (zo.rep g2 _))⟩;cases d with
   | tup es=>exact absurd hx (by
     intro q;rcases q with q | ⟨us,p,es',_,q,_⟩
     .simp only[Sn] at q;obtain⟨_,⟨q,_⟩ | ⟨_,q,_⟩,_⟩:=q <;> cases q
     .cases q)
   | _=>rfl
  .cases ef
 .exact .inl (Su S Z x y z d e Q hz hx hy ef hq)
theorem qN (ha:PD X a ta) (hb:PD X b tb):PD X (.BinOp a .Mult b pos) (yw sT ta tb):=qM ((V6.or V4).or V5) sT.fits sT.mo ha hb
end
end L5
namespace L3
open PySem PySem.Spec PyProof.Rows L2
section
variable {X:Cx}{K:PySem.W.Frag}{e o:Expr}{te to:zC}{apos cpos:Pos}
def sZ (to te:zC):zC:=fun δ S Q=>to δ S λ x S1=>match x with
 | .ref p=>(∃ ds,S1 p=some (.lst ds))/\te δ S1 λ y S2=>∃ q ds es,y=.ref q/\S2 p=some (.lst ds)/\S2 q=some (.lst es)/\ds.length+es.length<=sizeLine/\Q .zk (ups S2 p (.lst (ds++es)))
 | _=>False
theorem sZ.mo (h:yo to) (h':yo te):yo (sZ to te):=fun δ S Q Q' hq z=>h δ S _ _ (λ x S1 z=>by
 cases x with
 | ref p=>exact⟨z.1,h' δ S1 _ _ (λ y S2 ⟨q,ds,es,a,b,c,d,w⟩=>⟨q,ds,es,a,b,c,d,hq _ _ w⟩) z.2⟩
 | _=>exact z) z
theorem Vm {e0:Expr}(hpe:PE X e0 (jk X.K "list" dn (zO X.K to) (jj (zO X.K te) jh))) (h:yo to) (h':yo te):PD X e0 (sZ to te):=by
 refine⟨sZ.mo h h',PE.imp hpe fun σ H Q hu=>?_⟩;obtain⟨δ,S,r1,r2,z⟩:=hu;refine zO.go h r1 r2 z λ x S1 v H1 h1 q1 e1 p1=>?_;cases x with
 | ref p=>
  obtain⟨⟨ds,hd⟩,h1⟩:=h1;simp only[zg] at q1;subst q1;obtain⟨xs,g1,g2⟩:=p1 _ _ hd;refine⟨.inl ⟨rfl,xs,zQ.of g1⟩,?_⟩;refine zO.go h' (r1.ext e1) p1 h1 λ y S2 w H2 h2 q2 e2 p2=>?_;obtain⟨q,ds',es,rfl,b1,b2,b3,b4⟩:=h2;simp only[zg] at q2;subst q2;obtain⟨xs',g3,g4⟩:=p2 _ _ b1;obtain⟨ys',g5,g6⟩:=p2 _ _ b2;refine⟨p,q,xs',ys',rfl,rfl,g3,g5,by rw[<- g4.length,<- g6.length];exact b3,?_⟩;have e4:Ext H2 (upd H2 p (.lst (xs'++ys'))):=.lst g3 _;exact b4 _ _ (by simp only[zg]) ((e1.trans e2).trans e4) (p2.ups e4 ⟨_,yL,zq.ext e4 _ (g4.append g6)⟩)
 | zk=>exact h1.elim
 | bl _=>exact h1.elim
 | int _=>exact h1.elim
 | str _=>exact h1.elim
 | tup _=>exact h1.elim
 | yO _=>exact h1.elim
theorem Vc (ho:PD X o to) (he:PD X e te)
  (hbase:attributeBase o "extend" X.env (eval o X.env)=eval o X.env:=by rfl)
  (hfew:((backTo cpos (starEach [e] X.env)).all (λ x=>!x.1)&&(backToKw cpos (keywordEach [] X.env)).all (λ x=>x.1.isSome)
   && decide ([e].length+([]:List Keyword).length+(if ([]:List Keyword).isEmpty then 0 else 1)<30))=true:=by rfl)
  (hline:(apos.endLine == cpos.line)=true:=by rfl) (hs:starEach [e] X.env=(false,eval e X.env)::starEach [] X.env:=by rfl) (hplain:(backTo cpos (starEach [] X.env)).any (·.1)=false:=by rfl):
  PD X (.Call (.Attribute o "extend" apos) [e] [] cpos) (sZ to te):=
 Vm (dI PySem.F.plainAttrs_list PySem.F.slot_list_extend PySem.F.type_list_extend UR ho.pe (rH he.pe qP hs) hbase hfew hline hs hplain) ho.mo he.mo
def nR (to:zC):zC:=fun δ S Q=>to δ S λ x S1=>match x with
 | .ref p=>(∃ ds,S1 p=some (.lst ds))/\Q .zk (ups S1 p (.lst []))
 | _=>False
theorem Vr {e0:Expr}(hpe:PE X e0 (eE X.K "list" dq (zO X.K to))) (h:yo to):PD X e0 (nR to):=by
 refine⟨fun δ S Q Q' hq z=>h δ S _ _ (λ x S1 z=>by
  cases x with
  | ref p=>exact⟨z.1,hq _ _ z.2⟩
  | _=>exact z) z,PE.imp hpe fun σ H Q hu=>?_⟩
 obtain⟨δ,S,r1,r2,z⟩:=hu;refine zO.go h r1 r2 z λ x S1 v H1 h1 q1 e1 p1=>?_;cases x with
 | ref p=>
  obtain⟨⟨ds,hd⟩,h1⟩:=h1;simp only[zg] at q1;subst q1;obtain⟨xs,g1,g2⟩:=p1 _ _ hd;refine⟨.inl ⟨rfl,xs,zQ.of g1⟩,p,xs,rfl,rfl,g1,?_⟩;have e4:Ext H1 (upd H1 p (.lst [])):=.lst g1 _;exact h1 _ _ (by simp only[zg]) (e1.trans e4) (p1.ups e4 ⟨_,yL,.nil⟩)
 | zk=>exact h1.elim
 | bl _=>exact h1.elim
 | int _=>exact h1.elim
 | str _=>exact h1.elim
 | tup _=>exact h1.elim
 | yO _=>exact h1.elim
theorem Vd (ho:PD X o to) (hbase:attributeBase o "clear" X.env (eval o X.env)=eval o X.env:=by rfl) (hline:(apos.endLine == cpos.line)=true:=by rfl):
  PD X (.Call (.Attribute o "clear" apos) [] [] cpos) (nR to):=
 Vr (WL PySem.F.plainAttrs_list PySem.F.slot_list_clear PySem.F.type_list_clear US ho.pe hbase hline) ho.mo
end
end L3
namespace L5
open PySem L2 L3
@[simp] noncomputable def gq (i:Nat) (f:Ev->Option T):Sm:=fun ρ=>match ρ[i]? with
 | some (some (.own (.lst ts)))=>(f ρ).bind λ y=>match y with
  | .lst us=>if ts.length+us.length<=sizeLine then some (.nx (ρ.set i (some (.own (.lst (ts++us)))))) else none
  | _=>none
 | _=>none
section
variable {R:Rk}{f:Ev->Option T}{te:zC}
theorem VQ (i:Nat) (hf:xI f te):yv R (gq i f) (nQ (sZ (y8 i) te)):=λ S0 Z0 S Z δ ρ o E F e P=>by
 unfold gq at e;split at e
 .rename_i ts h;obtain⟨y,e1,e2⟩:=zOb e;split at e2
  .rename_i us;split at e2
   .rename_i hl;cases e2;obtain⟨p,ob,h1,h2,h3,h4⟩:=F.er.ow i _ h;obtain⟨ds,rfl⟩:∃ ds,ob=.lst ds:=by
     cases ob with
     | lst ds=>exact⟨ds,rfl⟩
     | yg _=>exact h3.elim
    replace h3:zo (zT S Z) ts ds:=h3;show sZ (y8 i) te δ S _;unfold sZ y8;rw[h1];refine⟨⟨ds,h2⟩,hf S Z δ ρ _ _ F.er e1 λ d S1 s1 r1=>?_⟩;obtain⟨q,es,rfl,g1,g2,g3⟩:=r1.2 us rfl;have F1:=F.grow s1;have g4:zo (zT S1 Z) us es:=zo.sx (uU λ a z=>.inl z) us g3;refine⟨q,ds,es,rfl,s1 _ _ h2,g2,by rw[h3.len,g4.len];exact hl,P _ Z δ (F1.mut (us:=.lst (ts++us)) (es:=.lst (ds++es)) i h h1 ((zo.sx (wN s1) ts h3).append g4))⟩
   .cases e2
  .cases e2
 .cases e
end
end L5
namespace L5
open PySem PySem.Spec L2 L3
open PyProof.Rows hiding St
section
variable {X:Cx}{K:PySem.W.Frag}{e:Expr}{es:List Expr}{tA:y6}{pos p:Pos}
def uY:xM:=λ ds S Q=>match ds with
 | [.int i]=>Q (.int i) S
 | [.bl k]=>Q (.int (if k then 1 else 0)) S
 | _=>False
theorem uY.mo:vR uY:=λ ds S Q Q' hq h=>by
 unfold uY at h ⊢;split at h
 .exact hq _ _ h
 .exact hq _ _ h
 .exact h.elim
theorem uY.fits:uF K uY (λ xs H Q=>(∃ i,xs=[.int i]/\Q (.int i) H)\/∃ k,xs=[.bl k]/\Q (.int (if k then 1 else 0)) H):=λ xs ds H S Q h0 h2 h=>by
 unfold uY at h;split at h
 .obtain⟨x,rfl,h1⟩:=h0.one;simp only[zg] at h1;subst h1;exact .inl ⟨_,rfl,h _ H (by simp only[zg]) (.refl H) h2⟩
 .obtain⟨x,rfl,h1⟩:=h0.one;simp only[zg] at h1;subst h1;exact .inr ⟨_,rfl,h _ H (by simp only[zg]) (.refl H) h2⟩
 .exact h.elim
theorem Vj (hm:X.mg "int"=none) (ha:xO X (e::es) tA) (hg:Gl X "int":=by rfl) (he:starEach (e::es) X.env=(false,eval e X.env)::starEach es X.env:=by rfl) (hpl:(backTo pos (starEach es X.env)).any (·.1)=false:=by rfl):PD X (.Call (.Name "int" p) (e::es) [] pos) (xK uY tA):=
 uQ (qI RY hg hm PyProof.Rows.boot_int ha.pa (by decide) (by decide) he hpl) uY.mo uY.fits ha.mo
@[simp] noncomputable def iZ:List T->Option T
 | [.int i]=>some (.int i)
 | [.bl k]=>some (.int (if k then 1 else 0))
 | _=>none
theorem good_int:vS zM iZ uY:=λ S Z ys z ds Q hz hv e hq=>by
 unfold iZ at e;split at e
 .cases e;obtain⟨d,rfl,h1⟩:=vw hv;cases h1.int;exact hq _ S (.refl S) (Cl.of (λ _=>nofun) wY)
 .cases e;obtain⟨d,rfl,h1⟩:=vw hv;cases h1.bl;exact hq _ S (.refl S) (Cl.of (λ _=>nofun) wY)
 .cases e
end
end L5
namespace L2
open PySem PySem.Spec PyProof.Rows
section
variable {X:Cx}{e st:Expr}{te ts:TE}{pos p2:Pos}
end
end L2
namespace L5
open PySem PySem.Spec L2 L3
open PyProof.Rows hiding St
section
variable {X:Cx}{K:PySem.W.Frag}{e st:Expr}{te ts:zC}{pos p2:Pos}
end
end L5
namespace L5
section
variable {α:Type}{P:List α->Prop}
theorem tT (h:∀ a,P [a]) (us:List α) (hl:us.length=1):P us:=match us,hl with | [a],_=>h a
theorem vf (h:∀ a b,P [a,b]) (us:List α) (hl:us.length=2):P us:=match us,hl with | [a,b],_=>h a b
theorem qe (h:∀ a b c,P [a,b,c]) (us:List α) (hl:us.length=3):P us:=match us,hl with | [a,b,c],_=>h a b c
theorem Qo (h:∀ a b c d,P [a,b,c,d]) (us:List α) (hl:us.length=4):P us:=match us,hl with | [a,b,c,d],_=>h a b c d
theorem ar5 (h:∀ a b c d e,P [a,b,c,d,e]) (us:List α) (hl:us.length=5):P us:=match us,hl with | [a,b,c,d,e],_=>h a b c d e
theorem ar6 (h:∀ a b c d e f,P [a,b,c,d,e,f]) (us:List α) (hl:us.length=6):P us:=match us,hl with | [a,b,c,d,e,f],_=>h a b c d e f
theorem ar7 (h:∀ a b c d e f g,P [a,b,c,d,e,f,g]) (us:List α) (hl:us.length=7):P us:=match us,hl with | [a,b,c,d,e,f,g],_=>h a b c d e f g
theorem ar8 (h:∀ a b c d e f g i,P [a,b,c,d,e,f,g,i]) (us:List α) (hl:us.length=8):P us:=match us,hl with | [a,b,c,d,e,f,g,i],_=>h a b c d e f g i
end
end L5
namespace L5
open PySem PySem.Spec L2 L3
open PyProof.Rows hiding St
section
variable {P:Program}{w:World}{K:PySem.W.Frag}{mg:Str->Option Value}{base h:Heap}{x:Str}{st:Stmt}
def Fx (K:PySem.W.Frag) (x:Str) (st:Stmt):Prop:=∃ (f:Addr) (oc:Value) (od:Option Addr) (kV dc pm:Value) (an:Option Addr) (cd ct:Value) (sl:Array (Option Value)),
 PySem.W.nsIn K mainGlobals x=some (some (.ref f))/\K.lookup f=some ⟨oc,od,.func (PySem.W.fnOf x x (tR st) (ve st) (zJ st) .none kV dc pm an cd ct),sl⟩/\PySem.W.codeIn K cd x=true/\PySem.W.keepIn K (.ref f)=true
theorem Fx.i {f:Addr}{oc:Value}{od:Option Addr}{kV dc pm:Value}{an:Option Addr}{cd ct:Value}{sl:Array (Option Value)}(a:PySem.W.nsIn K mainGlobals x=some (some (.ref f))) (l:K.lookup f=some ⟨oc,od,.func (PySem.W.fnOf x x (tR st) (ve st) (zJ st) .none kV dc pm an cd ct),sl⟩) (c:PySem.W.codeIn K cd x=true) (k:PySem.W.keepIn K (.ref f)=true):Fx K x st:=⟨f,oc,od,kV,dc,pm,an,cd,ct,sl,a,l,c,k⟩
def Fy (K:PySem.W.Frag) (mg:Str->Option Value) (x:Str) (st:Stmt):Prop:=∃ (f:Addr) (fd:FuncData),uz K x x st f fd/\mg x=some (.ref f)
theorem Fx.mk (H:Fx K x st) (X:K.In h) (G:h.Ns mainGlobals mg):Fy K mg x st:=by
 obtain⟨f,oc,od,kV,dc,pm,an,cd,ct,sl,a,l,c,k⟩:=H;exact⟨f,_,bF l c k,PySem.W.mg_of X G a⟩
theorem Fx.law {fa:Addr}{p:Str}(H:Fx K "law" st) (X:K.In h) (G:h.Ns mainGlobals mg) (hfa:mg "law"=some (.ref fa)) (hb:∀ (kV dc pm:Value) (an:Option Addr) (cd ct:Value) (s:Shared) (v:Value),BindsTo s (PySem.W.fnOf "law" "law" (tR st) (ve st) (zJ st) .none kV dc pm an cd ct) ⟨[v],[]⟩ [(p,v)]):∃ fd:FuncData,uz K "law" "law" st fa fd/\∀ (s:Shared) (v:Value),BindsTo s fd ⟨[v],[]⟩ [(p,v)]:=by
 obtain⟨f,oc,od,kV,dc,pm,an,cd,ct,sl,a,l,c,k⟩:=H;have e:=hfa.symm.trans (PySem.W.mg_of X G a);cases e;exact⟨_,bF l c k,hb kV dc pm an cd ct⟩
def Cn (K:PySem.W.Frag) (x:Str) (t:V):Prop:=∃ u,PySem.W.nsIn K mainGlobals x=some (some u)/\L2.RelV t u
theorem Cn.i {t:V}{u:Value}(a:PySem.W.nsIn K mainGlobals x=some (some u)) (r:L2.RelV t u):Cn K x t:=⟨u,a,r⟩
theorem Cn.mk {t:V}(H:Cn K x t) (X:K.In h) (G:h.Ns mainGlobals mg):∃ u,mg x=some u/\L2.RelV t u:=by
 obtain⟨u,a,r⟩:=H;exact⟨u,PySem.W.mg_of X G a,r⟩
theorem yI {R:Rk} [Lo R] {N ps:List Str}{k n:Nat}{g:Sm}(F:Fy K mg x st) (Sc:yp N ps (zJ st)) (hn:n=ps.length)
  (hb:∀ (kV doc pm:Value) (an:Option Addr) (cdv ct:Value) (us:List Value),us.length=ps.length->bindArgs (PySem.W.fnOf x x (tR st) (ve st) (zJ st) .none kV doc pm an cdv ct) ⟨us,[]⟩=pure (ps.zip us))
  (hbody:∀ (f:Addr) (cdv:Value) (A:Around) (outer:List Env) (s:Shared) (H:Hp) (E:XK),y9 k (A.deeper (envOfC x (zJ st) s.heap.objs.size f cdv))->
   ∃ t,vQ (uC wX P w K mg base N x (zJ st) f cdv A outer s H E).tJ (ve st) t/\yv R g t):FD P w K mg base x (k+1) ps (yj R (ye N n g)):=by
 obtain⟨f,fd,F,hm⟩:=F;exact SO F hm Sc hn hb (hbody f)
end
end L5
namespace L5
open PySem PySem.Spec L2 L3
open PyProof.Rows hiding St
def Qv (o:Out) (E:sj):Prop:=match o with
 | .nx ρ=>∀ S0 Z0 S Z δ,FR S0 Z0 S Z δ ρ->E.nx δ S
 | .rt y=>∀ d S,Sn S y d->E.rt d S
 | _=>False
def qk (g:Sm) (t:yP):Prop:=∀ S0 Z0 S Z δ ρ o E,FR S0 Z0 S Z δ ρ->g ρ=some o->Qv o E->t E δ S
@[simp] noncomputable def ia:Option W->Bool
 | some (.im t)=>plainT t
 | some (.own (.lst ts))=>sI ts
 | _=>false
@[simp] noncomputable def mJ (ρ:Ev):Ev:=ρ.map λ w=>if ia w=true then w else none
@[simp] noncomputable def kW (i:Nat):Sm:=fun ρ=>match ρ[i]? with
 | some (some (.im (.lst ts)))=>if oI ts=true then none else some (.nx (mJ ρ))
 | _=>none
section
variable {R:Rk}{g h:Sm}{t u:yP}{S0 S:SS}{Z0 Z:Addr->Prop}{δ:yn}{ρ:Ev}
theorem yv.z [Sr R] (h:yv R g t):qk g t:=λ S0 Z0 S Z δ ρ o E F e P=>h S0 Z0 S Z δ ρ o E F e (by
 cases o with
 | nx ρ'=>exact λ S' Z' δ' F'=>P S0 Z0 S' Z' δ' F'
 | rt y=>exact λ d S' _ r=>P d S' (Sn.sx (q_ S' Z0) y (Sr.sn r))
 | bk _=>exact False.elim P
 | ct _=>exact False.elim P)
theorem rK (hg:qk g t) (hh:qk h u):qk (zx g h) (p8 t u):=λ S0 Z0 S Z δ ρ o E F e P=>by
 obtain⟨o1,e1,e2⟩:=zOb e;refine hg S0 Z0 S Z δ ρ o1 _ F e1 ?_;cases o1 with
 | nx ρ'=>exact λ S0' Z0' S' Z' δ' F'=>hh S0' Z0' S' Z' δ' ρ' o E F' e2 P
 | rt y=>cases e2;exact P
 | bk _=>cases e2;exact P
 | ct _=>cases e2;exact P
theorem pV {i:Nat}{w:W}(h:(mJ ρ)[i]?=some (some w)):ρ[i]?=some (some w)/\ia (some w)=true:=by
 unfold mJ at h;rw[List.getElem?_map] at h;cases q:ρ[i]? with
 | none=>rw[q] at h;cases h
 | some x=>
  rw[q] at h;replace h:(if ia x=true then x else none)=some w:=Option.some.inj h;split at h
  .rename_i hp;subst h;exact⟨rfl,hp⟩
  .cases h
theorem FR.Yn (F:FR S0 Z0 S Z δ ρ) {p:Addr}(nz:¬ Z p) (o:O):FR (zT (ups S p o) Z) (λ _=>False) (ups S p o) Z δ (mJ ρ):=by
 have ne:∀ a,Z a->ups S p o a=S a:=λ a z=>uI (λ e=>nz (by rw[<- e];exact z));refine⟨⟨λ a z=>by rw[ne a z];exact F.er.zd a z,λ i t e=>?_,λ i c e=>?_⟩,by simp[F.len],q_ _ _,nofun,nofun,λ a z=>.inr (ni z),λ i c q e ed=>?_,λ i j c c' q n e1 e2 e3 e4=>F.dj i j c c' q n (pV e1).1 (pV e2).1 e3 e4⟩
 .obtain⟨q,hp⟩:=pV e;obtain⟨d,h1,h2⟩:=F.er.im i t q;exact⟨d,h1,dD t hp h2⟩
 .obtain⟨q,hp⟩:=pV e;obtain⟨a,o',h1,h2,h3,h4⟩:=F.er.ow i c q;refine⟨a,o',h1,by rw[ne a h4];exact h2,?_,h4⟩;cases c with
  | yg _=>cases hp
  | lst ts=>
   cases o' with
   | yg _=>exact h3.elim
   | lst ds=>exact j_ ts hp h3
 .obtain⟨a,o',h1,h2,h3,h4⟩:=F.er.ow i c (pV e).1;rw[ed] at h1;cases h1;exact ni h4
theorem VN (i:Nat):qk (kW i) (nQ (nR (y8 i))):=λ S0 Z0 S Z δ ρ o E F e P=>by
 unfold kW at e;split at e
 .rename_i ts h;split at e
  .cases e
  .rename_i hn;cases e;obtain⟨d,h1,h2⟩:=F.er.im i _ h;simp only[Sn] at h2;obtain⟨ds,⟨_,q⟩ | ⟨p,rfl,q⟩,h3⟩:=h2
   .exact absurd q hn
   obtain⟨nz,hp⟩:=u6 q;show nR (y8 i) δ S _;unfold nR y8;rw[h1];exact⟨⟨ds,hp⟩,P _ _ _ Z δ (F.Yn nz _)⟩
 .cases e
def t6 (F:List T->Option T):tW:=λ ds S Q=>∃ Z ys y,(∀ a,Z a->S a≠none)/\zo (zT S Z) ys ds/\F ys=some y/\∀ d S',Sn S' y d->Q d S'
theorem t6.len {N:List Str}{n:Nat}{ds:List D}{Q:DK}(hs:t6 (ye N n g) ds S Q):ds.length=n:=by
 obtain⟨Z,ys,y,hz,r,e,hq⟩:=hs;unfold ye at e;split at e
 .rename_i h;rw[r.len];exact h
 .cases e
theorem Qg {N:List Str}{n:Nat}(h:qk g t) {ds:List D}{Q:DK}(hs:t6 (ye N n g) ds S Q):t { nx:=λ _ S'=>Q .zk S',rt:=Q } (u3 N ds) S:=by
 obtain⟨Z,ys,y,hz,r,e,hq⟩:=hs;unfold ye at e;split at e
 case isFalse=>cases e
 obtain⟨o,e1,e2⟩:∃ o,g (uM N ys)=some o/\iy (some o)=some y:=by
  cases q:g (uM N ys) with
  | none=>rw[q] at e;cases e
  | some o=>exact⟨o,rfl,by rw[<- q];exact e⟩
 refine h S Z S Z _ _ o _ ⟨⟨hz,λ i t e=>?_,λ i ts e=>?_⟩,?_,.refl S,hz,λ _ z=>z,λ _ z=>.inl z,λ i ts p e _=>?_,λ i j ts us p _ e _ _ _=>?_⟩ e1 ?_
 .obtain⟨y',h1,h2⟩:=sD e;cases h2;obtain⟨d,h3,h4⟩:=r.lY h1;exact⟨d,eG h3,h4⟩
 .obtain⟨y',h1,h2⟩:=sD e;cases h2
 .unfold u3 uM;have:=r.len;simp[this]
 .obtain⟨y',h1,h2⟩:=sD e;cases h2
 .obtain⟨y',h1,h2⟩:=sD e;cases h2
 .cases o with
  | rt y'=>cases e2;exact hq
  | nx ρ'=>
   cases e2;exact λ _ _ S' _ _ _=>hq .zk S' jq
  | bk _=>cases e2
  | ct _=>cases e2
end
section
variable {P:Program}{w:World}{K:PySem.W.Frag}{mg:Str->Option Value}{base:Heap}{f:Addr}{fd:FuncData}
theorem SG {x:Str}{st:Stmt}{N ps:List Str}{k n:Nat}{g:Sm}(F:uz K x x st f fd) (Sc:yp N ps (zJ st)) (hn:n=ps.length)
  (hbody:∀ (cdv:Value) (A:Around) (outer:List Env) (s:Shared) (H:Hp) (E:XK),y9 k (A.deeper (envOfC x (zJ st) s.heap.objs.size f cdv))->
   ∃ t,vQ (uC wX P w K mg base N x (zJ st) f cdv A outer s H E).tJ (ve st) t/\qk g t):vU P w K mg base wX (k+1) f fd ps (uJ K (t6 (ye N n g))):=
 bE F Sc (λ ds S Q h=>by rw[h.len,hn]) λ cdv A outer s H E hr=>by
  obtain⟨t,h1,h2⟩:=hbody cdv A outer s H E hr;exact⟨t,h1,λ ds S Q h=>Qg h2 h⟩
theorem Tw {F:List T->Option T}(hF:∀ ns:List Int,ns.length<=63->F [.lst (ns.map T.int)]=some (.bl true)) {H:Hp}{a:Addr}{ns:List Int}{E:XK}(hO:kH H) (hS:zQ K H a (ns.map V.int)) (hl:ns.length<=63):uJ K (t6 F) [.ref a] H (λ v _=>v=.bl true) E:=by
 have hFz:pE K H a (ns.map V.int):=by
  rcases hS with (h | h) | h
  .rcases hO a with z | ⟨o,xs,z⟩
   .rw[h] at z;cases z
   .rw[h] at z;cases z
  .exact .inl h
  .exact .inr h
 refine⟨[.yO (ns.map D.int)],λ _=>none,.cons ?_ .nil,(λ a o z=>nomatch z),λ _=>False,[.lst (ns.map T.int)],.bl true,nofun,.cons ?_ .nil,hF ns hl,λ d S' r v H' rv _ _=>?_⟩
 .simp only[zg];exact⟨a,_,rfl,hFz,zq.i8 ns⟩
 .simp only[Sn];exact⟨_,.inl ⟨rfl,VM ns⟩,t8.mpr rfl⟩
 .simp only[Sn] at r;subst r;simpa only [zg] using rv
end
end L5
namespace RN
open L5
abbrev Bd:=List (Int×Int)
def xk (b c:Bd):Prop:=∀ q,yf b q=true->yf c q=true
theorem xk.refl (b:Bd):xk b b:=λ _ h=>h
theorem xk.of {b c:Bd}(h:∀ p∈b,∃ r∈c,r.1<=p.1/\r.2<=p.2):xk b c:=λ q x=>by
 obtain⟨p,hp,h1,h2⟩:=xH.mp x;obtain⟨r,hr,h3,h4⟩:=h p hp;exact xH.mpr ⟨r,hr,by omega,by omega⟩
theorem xk.at {b c:Bd}(h:xk b c) {p:Int×Int}(hp:p∈b):∃ r∈c,r.1<=p.1/\r.2<=p.2:=xH.mp (h p (xH.mpr ⟨p,hp,Int.le_refl _,Int.le_refl _⟩))
structure Gd (A B:Int) (b:Bd):Prop where
 lT:vv b
 vE:∀ p∈b,(0<=p.1/\p.1<=A)/\0<=p.2/\p.2<=B
noncomputable def xZ:Bd:=[(0,0)]
theorem Gd.xZ {A B:Int}(hA:0<=A) (hB:0<=B):Gd A B xZ:=⟨by unfold RN.xZ vv;simp,λ p hp=>by
 unfold RN.xZ at hp;cases List.mem_singleton.mp hp;exact⟨⟨Int.le_refl _,hA⟩,Int.le_refl _,hB⟩⟩
theorem Gd.Tp {A B:Int}{b:Bd}(h:Gd A B b):xk b RN.xZ:=xk.of λ p hp=>⟨(0,0),by unfold RN.xZ;simp,(h.vE p hp).1.1,(h.vE p hp).2.1⟩
theorem Gd.eq {A B:Int}{b c:Bd}(h:Gd A B b) (h':Gd A B c) (x:xk b c) (y:xk c b):b=c:=vv.eq h.lT h'.lT λ q=>by
 rw[Bool.eq_iff_iff];exact⟨x q,y q⟩
theorem Gd.least {A B:Int}{ps:Bd}(h:∀ p∈ps,(0<=p.1/\p.1<=A)/\0<=p.2/\p.2<=B):Gd A B (w_ ps):=⟨iU ps,λ p hp=>h p (Tj hp)⟩
theorem cK {ps qs:Bd}(h:∀ p∈ps,∃ r∈qs,r.1<=p.1/\r.2<=p.2):xk (w_ ps) (w_ qs):=λ q x=>by
 rw[lP] at x ⊢;exact xk.of h q x
theorem c_:∀ {b:Bd}{lo hi:Int},vv b->(∀ p∈b,lo<=p.1/\p.1<=hi)->(b.length:Int)<=hi+1-lo\/b=[]
 | [],_,_,_,_=>.inr rfl
 | p::b,lo,hi,h,hb=>by
  have h1:=List.pairwise_cons.mp h;have hp:=hb p zMc;refine .inl ?_;rcases c_ (lo:=p.1+1) (hi:=hi) h1.2 (λ q hq=>⟨by have:=(h1.1 q hq).1;omega,(hb q (zMo _ hq)).2⟩) with x | x
  .rw[List.length_cons];omega
  .subst x;simp;omega
theorem cZ:∀ {b:Bd}{lo hi:Int},vv b->(∀ p∈b,lo<=p.2/\p.2<=hi)->(b.length:Int)<=hi+1-lo\/b=[]
 | [],_,_,_,_=>.inr rfl
 | p::b,lo,hi,h,hb=>by
  have h1:=List.pairwise_cons.mp h;have hp:=hb p zMc;refine .inl ?_;rcases cZ (lo:=lo) (hi:=p.2-1) h1.2 (λ q hq=>⟨(hb q (zMo _ hq)).1,by have:=(h1.1 q hq).2;omega⟩) with x | x
  .rw[List.length_cons];omega
  .subst x;simp;omega
theorem Gd.rR {A B:Int}{b:Bd}(h:Gd A B b) (hA:0<=A):(b.length:Int)<=A+1:=by
 rcases c_ (lo:=0) (hi:=A) h.lT (λ p hp=>(h.vE p hp).1) with x | x
 .omega
 .subst x;simp;omega
theorem Gd.Ti {A B:Int}{b:Bd}(h:Gd A B b) (hB:0<=B):(b.length:Int)<=B+1:=by
 rcases cZ (lo:=0) (hi:=B) h.lT (λ p hp=>(h.vE p hp).2) with x | x
 .omega
 .subst x;simp;omega
noncomputable def yX (x:Int):Int:=if x>0 then x else 0
theorem oV (x:Int):0<=yX x:=by unfold yX;split <;> omega
theorem iD {x y:Int}(h:x<=y):yX x<=yX y:=by unfold yX;split <;> split <;> omega
theorem UM {x g:Int}(h:0<=x) (hg:0<=g):yX (x-g)<=x:=by unfold yX;split <;> omega
noncomputable def xY (a b:Int) (p:Int×Int):Int×Int:=(yX (p.1-a),yX (p.2-b))
noncomputable def vH (A B:Int) (p:Int×Int):Bool:=decide (p.1<=A)&&decide (p.2<=B)
noncomputable def me (A B a b:Int) (bd:Bd):Bd:=w_ ((bd.map (xY a b)).filter (vH A B))
theorem Qq (A B a b:Int) (bd:Bd):Gd A B (me A B a b bd):=Gd.least λ p hp=>by
 obtain⟨h1,h2⟩:=List.mem_filter.mp hp;obtain⟨q,_,rfl⟩:=List.mem_map.mp h1;have h3:(xY a b q).1<=A/\(xY a b q).2<=B:=by simpa [vH] using h2
 exact⟨⟨oV _,h3.1⟩,oV _,h3.2⟩
theorem Za (A B a b:Int) {bd bd':Bd}(h:xk bd bd'):xk (me A B a b bd) (me A B a b bd'):=cK λ p hp=>by
 obtain⟨h1,h2⟩:=List.mem_filter.mp hp;obtain⟨q,hq,rfl⟩:=List.mem_map.mp h1;obtain⟨r,hr,r1,r2⟩:=h.at hq;have h3:(xY a b q).1<=A/\(xY a b q).2<=B:=by simpa [vH] using h2
 have m1:(xY a b r).1<=(xY a b q).1:=iD (by omega);have m2:(xY a b r).2<=(xY a b q).2:=iD (by omega);exact⟨xY a b r,List.mem_filter.mpr ⟨List.mem_map.mpr ⟨r,hr,rfl⟩,by simp[vH];omega⟩,m1,m2⟩
noncomputable def um (b c:Bd):Bd:=w_ (b++c)
theorem Rj (b c:Bd) (q:Int×Int):yf (um b c) q=(yf b q||yf c q):=by unfold um;rw[lP,R3]
theorem Ri {A B:Int}{b c:Bd}(h:Gd A B b) (h':Gd A B c):Gd A B (um b c):=Gd.least λ p hp=>by
 rcases List.mem_append.mp hp with x | x
 .exact h.vE p x
 .exact h'.vE p x
noncomputable def lM (p q:Int×Int):Int×Int:=(if q.1>p.1 then q.1 else p.1,if q.2>p.2 then q.2 else p.2)
noncomputable def vM (b c:Bd):Bd:=w_ (b.flatMap λ p=>c.map (lM p))
theorem aK (b c:Bd) (q:Int×Int):yf (vM b c) q=(yf b q&&yf c q):=by
 unfold vM;rw[lP,Bool.eq_iff_iff,Bool.and_eq_true,xH,xH,xH];constructor
 .rintro⟨p,hp,h1,h2⟩;obtain⟨x,hx,hp⟩:=List.mem_flatMap.mp hp;obtain⟨y,hy,rfl⟩:=List.mem_map.mp hp;unfold lM at h1 h2;dsimp only at h1 h2;refine⟨⟨x,hx,?_,?_⟩,⟨y,hy,?_,?_⟩⟩ <;> (first | (split at h1 <;> omega) | (split at h2 <;> omega))
 .rintro⟨⟨x,hx,h1,h2⟩,⟨y,hy,h3,h4⟩⟩;refine⟨lM x y,List.mem_flatMap.mpr ⟨x,hx,List.mem_map.mpr ⟨y,hy,rfl⟩⟩,?_,?_⟩
  .show (if y.1>x.1 then y.1 else x.1)<=q.1;split <;> omega
  .show (if y.2>x.2 then y.2 else x.2)<=q.2;split <;> omega
theorem Qe {A B:Int}{b c:Bd}(h:Gd A B b) (h':Gd A B c):Gd A B (vM b c):=Gd.least λ p hp=>by
 obtain⟨x,hx,hp⟩:=List.mem_flatMap.mp hp;obtain⟨y,hy,rfl⟩:=List.mem_map.mp hp;have a1:=h.vE x hx;have a2:=h'.vE y hy;unfold lM;dsimp only;refine⟨⟨?_,?_⟩,?_,?_⟩ <;> split <;> omega
noncomputable def tQ (bs:List Bd):Bd:=bs.foldl um []
noncomputable def k0 (bs:List Bd):Bd:=bs.foldl vM xZ
theorem bW:∀ (bs:List Bd) (b:Bd) (q:Int×Int),yf (bs.foldl um b) q=true↔yf b q=true\/∃ c∈bs,yf c q=true
 | [],b,q=>by simp
 | c::bs,b,q=>by
  rw[List.foldl_cons,bW bs,Rj,Bool.or_eq_true];constructor
  .rintro ((h | h) | ⟨d,hd,h⟩)
   .exact .inl h
   .exact .inr ⟨c,zMc,h⟩
   .exact .inr ⟨d,zMo _ hd,h⟩
  .rintro (h | ⟨d,hd,h⟩)
   .exact .inl (.inl h)
   .rcases List.mem_cons.mp hd with e | e
    .subst e;exact .inl (.inr h)
    .exact .inr ⟨d,e,h⟩
theorem kg {A B:Int}:∀ (bs:List Bd) (b:Bd),Gd A B b->(∀ c∈bs,Gd A B c)->Gd A B (bs.foldl um b)
 | [],b,h,_=>h
 | c::bs,b,h,hb=>kg bs _ (Ri h (hb c zMc)) λ d hd=>hb d (zMo _ hd)
theorem Gd.nil {A B:Int}:Gd A B []:=⟨by unfold vv;simp,λ p hp=>by cases hp⟩
theorem aL:∀ (bs:List Bd) (b:Bd) (q:Int×Int),yf (bs.foldl vM b) q=true↔yf b q=true/\∀ c∈bs,yf c q=true
 | [],b,q=>by simp
 | c::bs,b,q=>by
  rw[List.foldl_cons,aL bs,aK,Bool.and_eq_true];constructor
  .rintro⟨⟨h1,h2⟩,h3⟩;exact⟨h1,λ d hd=>by
    rcases List.mem_cons.mp hd with e | e
    .subst e;exact h2
    .exact h3 d e⟩
  .rintro⟨h1,h2⟩;exact⟨⟨h1,h2 c zMc⟩,λ d hd=>h2 d (zMo _ hd)⟩
theorem gE {A B:Int}:∀ (bs:List Bd) (b:Bd),Gd A B b->(∀ c∈bs,Gd A B c)->Gd A B (bs.foldl vM b)
 | [],b,h,_=>h
 | c::bs,b,h,hb=>gE bs _ (Qe h (hb c zMc)) λ d hd=>hb d (zMo _ hd)
noncomputable def t9 (pu:Bool) (g t:Int):Int×Int:=if pu=true then (t,g) else (g,t)
noncomputable def vF (pu:Bool) (p:Int×Int):Int:=if pu=true then p.2 else p.1
noncomputable def tM (pu:Bool) (p:Int×Int):Int:=if pu=true then p.1 else p.2
noncomputable def wu (pu:Bool) (xi give get:Int):Nat->Int->Int->Bd
 | 0,_,_=>[]
 | n+1,g,t=>if g<=xi then t9 pu g t::wu pu xi give get n (g+give) (yX (t-get)) else []
theorem We {pu:Bool}{g t g' t':Int}(h:g'<=g) (h':t'<=t):(t9 pu g' t').1<=(t9 pu g t).1/\(t9 pu g' t').2<=(t9 pu g t).2:=by
 cases pu
 .exact⟨h,h'⟩
 .exact⟨h',h⟩
theorem aE (pu:Bool) (xi give get:Int):∀ (n:Nat) (g t g' t':Int),g'<=g->t'<=t->∀ e∈wu pu xi give get n g t,∃ r∈wu pu xi give get n g' t',r.1<=e.1/\r.2<=e.2
 | 0,_,_,_,_,_,_,e,he=>by cases he
 | n+1,g,t,g',t',h1,h2,e,he=>by
  unfold wu at he ⊢;split at he
  .rw[if_pos (by omega)];rcases List.mem_cons.mp he with x | x
   .subst x;exact⟨_,zMc,We h1 h2⟩
   .obtain⟨r,hr,r1⟩:=aE pu xi give get n _ _ (g' + give) (yX (t'-get)) (by omega) (iD (by omega)) e x;exact⟨r,zMo _ hr,r1⟩
  .cases he
theorem gD (pu:Bool) (xi give get most:Int) (hg:1<=give) (hgt:0<=get):∀ (n:Nat) (g t:Int),0<=g->0<=t->t<=most->∀ e∈wu pu xi give get n g t,(0<=vF pu e/\vF pu e<=xi)/\0<=tM pu e/\tM pu e<=most
 | 0,_,_,_,_,_,e,he=>by cases he
 | n+1,g,t,h1,h2,h3,e,he=>by
  unfold wu at he;split at he
  .rcases List.mem_cons.mp he with x | x
   .subst x;cases pu <;> exact⟨⟨h1,by assumption⟩,h2,h3⟩
   .exact gD pu xi give get most hg hgt n _ _ (by omega) (oV _) (Int.le_trans (UM h2 hgt) h3) e x
  .cases he
theorem aF (pu:Bool) (xi give get:Int) (hg:1<=give):∀ (n:Nat) (g t:Int),g<=xi+1->((wu pu xi give get n g t).length:Int)<=xi+1-g
 | 0,g,t,h=>by simp[wu];omega
 | n+1,g,t,h=>by
  unfold wu;split
  .rw[List.length_cons];by_cases hh:g+give<=xi+1
   .have:=aF pu xi give get hg n (g+give) (yX (t-get)) hh;omega
   .have e:wu pu xi give get n (g+give) (yX (t-get))=[]:=by
     cases n with
     | zero=>rfl
     | succ n=>unfold wu;rw[if_neg (by omega)]
    rw[e];simp;omega
  .simp;omega
end RN
namespace RN
open L5
structure Wy where
 f:Nat
 t:Nat
 a:Int
 b:Int
structure Sl where
 p:Nat
 pu:Bool
 gv:Int
 gt:Int
structure zX where
 A:Int
 B:Int
 os:List Bool
 ws:List Wy
 ss:List Sl
structure zX.Ok (F:zX):Prop where
 a0:0<=F.A
 a1:F.A<=12
 b0:0<=F.B
 b1:F.B<=12
 n1:1<=F.os.length
 n8:F.os.length<=8
 ws:∀ w∈F.ws,w.f<F.os.length/\w.t<F.os.length
 pX:F.ws.length<=60
 ss:∀ s∈F.ss,1<=s.gv/\0<=s.gt
 sl:F.ss=[]\/(F.A+1)*(F.B+1)<64
 s8:F.ss.length<=60
noncomputable def zX.xi (F:zX) (pu:Bool):Int:=if pu=true then F.B else F.A
noncomputable def xh (F:zX) (s:Sl) (p:Int×Int):Bd:=wu s.pu (F.xi s.pu) s.gv s.gt 100 (vF s.pu p) (tM s.pu p)
noncomputable def nU (F:zX) (s:Sl) (bd:Bd):Bd:=w_ (bd.flatMap (xh F s))
theorem RB (F:zX) (s:Sl) {b c:Bd}(h:xk b c):xk (nU F s b) (nU F s c):=cK λ p hp=>by
 obtain⟨x,hx,hp⟩:=List.mem_flatMap.mp hp;obtain⟨r,hr,r1,r2⟩:=h.at hx;obtain⟨e,he,e1⟩:=aE s.pu (F.xi s.pu) s.gv s.gt 100 (vF s.pu x) (tM s.pu x) (vF s.pu r) (tM s.pu r) (by unfold vF;split <;> assumption) (by unfold tM;split <;> assumption) p hp;exact⟨e,List.mem_flatMap.mpr ⟨r,hr,he⟩,e1⟩
theorem RA {F:zX}{s:Sl}(hs:1<=s.gv/\0<=s.gt) {p:Int×Int}(hp:(0<=p.1/\p.1<=F.A)/\0<=p.2/\p.2<=F.B):∀ e∈xh F s p,(0<=e.1/\e.1<=F.A)/\0<=e.2/\e.2<=F.B:=λ e he=>by
 obtain⟨p,pu,gv,gt⟩:=s;unfold xh zX.xi at he;cases pu with
 | true=>exact (gD true F.B gv gt F.A hs.1 hs.2 100 _ _ hp.2.1 hp.1.1 hp.1.2 e he).symm
 | false=>exact gD false F.A gv gt F.B hs.1 hs.2 100 _ _ hp.1.1 hp.2.1 hp.2.2 e he
theorem RC {F:zX}{s:Sl}(hs:1<=s.gv/\0<=s.gt) {b:Bd}(h:Gd F.A F.B b):Gd F.A F.B (nU F s b):=Gd.least λ p hp=>by
 obtain⟨x,hx,hp⟩:=List.mem_flatMap.mp hp;exact RA hs (h.vE x hx) p hp
noncomputable def vg (F:zX) (last:List Bd) (p:Nat):List Bd:=(F.ws.filter λ w=>decide (w.f=p)).map λ w=>me F.A F.B w.a w.b (last.getD w.t [])
noncomputable def zX.stall (F:zX) (p:Nat):Option Sl:=F.ss.find? λ s=>decide (s.p=p)
noncomputable def xx (F:zX) (last:List Bd) (p:Nat):Bd:=
 if F.os.getD p false=true then match F.stall p with
  | none=>tQ (vg F last p)
  | some s=>nU F s (tQ (vg F last p))
 else k0 (vg F last p)
theorem gN (F:zX) (last:List Bd) (p:Nat):∀ c∈vg F last p,Gd F.A F.B c:=λ c hc=>by
 obtain⟨w,_,rfl⟩:=List.mem_map.mp hc;exact Qq ..
theorem c7 {F:zX}(ok:F.Ok) (last:List Bd) (p:Nat):Gd F.A F.B (xx F last p):=by
 unfold xx;have h1:Gd F.A F.B (tQ (vg F last p)):=kg _ _ Gd.nil (gN F last p);split
 .split
  .exact h1
  .rename_i s e;exact RC (ok.ss s (List.mem_of_find?_eq_some e)) h1
 .exact gE _ _ (Gd.xZ ok.a0 ok.b0) (gN F last p)
theorem UK (F:zX) {l m:List Bd}(p:Nat) (h:∀ w∈F.ws,w.f=p->xk (l.getD w.t []) (m.getD w.t [])):xk (xx F l p) (xx F m p):=by
 have h1:xk (tQ (vg F l p)) (tQ (vg F m p)):=λ q hq=>by
  unfold tQ at hq ⊢;rw[bW] at hq ⊢;rcases hq with x | ⟨c,hc,x⟩
  .exact .inl x
  .obtain⟨w,hw,rfl⟩:=List.mem_map.mp hc;obtain⟨w1,w2⟩:=List.mem_filter.mp hw;exact .inr ⟨_,List.mem_map.mpr ⟨w,hw,rfl⟩,Za _ _ _ _ (h w w1 (by simpa using w2)) q x⟩
 unfold xx;split
 .split
  .exact h1
  .exact RB F _ h1
 .intro q hq;unfold k0 at hq ⊢;rw[aL] at hq ⊢;refine⟨hq.1,λ c hc=>?_⟩;obtain⟨w,hw,rfl⟩:=List.mem_map.mp hc;obtain⟨w1,w2⟩:=List.mem_filter.mp hw;exact Za _ _ _ _ (h w w1 (by simpa using w2)) q (hq.2 _ (List.mem_map.mpr ⟨w,hw,rfl⟩))
theorem UJ (F:zX) {l m:List Bd}(p:Nat) (h:∀ w∈F.ws,w.f=p->l.getD w.t []=m.getD w.t []):xx F l p=xx F m p:=by
 have:vg F l p=vg F m p:=by
  unfold vg;refine List.map_congr_left λ w hw=>?_;obtain⟨w1,w2⟩:=List.mem_filter.mp hw;rw[h w w1 (by simpa using w2)]
 unfold xx;rw[this]
noncomputable def box:List (Int×Int):=(List.range 13).flatMap λ(i:Nat)=>(List.range 13).map λ(j:Nat)=>((i:Int),(j:Int))
noncomputable def mu (b:Bd):Nat:=box.countP (yf b)
theorem Qd {p:Int×Int}(h:(0<=p.1/\p.1<=12)/\0<=p.2/\p.2<=12):p∈box:=by
 obtain⟨x,y⟩:=p;dsimp only at h;refine List.mem_flatMap.mpr ⟨x.toNat,List.mem_range.mpr (by omega),List.mem_map.mpr ⟨y.toNat,List.mem_range.mpr (by omega),?_⟩⟩;rw[Int.toNat_of_nonneg h.1.1,Int.toNat_of_nonneg h.2.1]
theorem aA {α:Type}{p q:α->Bool}:∀ {l:List α},(∀ x,q x=true->p x=true)->(∃ x∈l,p x=true/\q x=false)->l.countP q<l.countP p
 | [],_,⟨x,hx,_⟩=>by cases hx
 | a::l,h,⟨x,hx,h1,h2⟩=>by
  have hle:l.countP q<=l.countP p:=List.countP_mono_left λ y _=>h y;rw[List.countP_cons,List.countP_cons];rcases List.mem_cons.mp hx with e | e
  .subst e;rw[if_neg (by rw[h2];decide),if_pos h1];omega
  .have:=aA h ⟨x,e,h1,h2⟩;by_cases c:q a=true
   .rw[if_pos c,if_pos (h a c)];omega
   .rw[if_neg c];split <;> omega
theorem UP {A B:Int}(hA:A<=12) (hB:B<=12) {b c:Bd}(hb:Gd A B b) (hc:Gd A B c) (h:xk b c) (hne:b≠c):mu b<mu c:=by
 refine aA h ?_;by_cases x:∃ p∈c,yf b p=false
 .obtain⟨p,hp,e⟩:=x;have q:=hc.vE p hp;exact⟨p,Qd ⟨⟨q.1.1,by omega⟩,q.2.1,by omega⟩,xH.mpr ⟨p,hp,Int.le_refl _,Int.le_refl _⟩,e⟩
 .exact absurd (hb.eq hc h (xk.of λ p hp=>by
   cases e:yf b p with
   | true=>exact xH.mp e
   | false=>exact absurd ⟨p,hp,e⟩ x)) hne
theorem UQ (b:Bd):mu b<=169:=by
 have:box.length=169:=by decide
 rw[<- this];exact List.countP_le_length
noncomputable def v9 (l:List Bd):Nat:=(l.map mu).sum
theorem c9:∀ (l:List Bd),v9 l<=169*l.length
 | []=>by simp[v9]
 | b::l=>by
  have h1:=c9 l;have h2:=UQ b;unfold v9 at h1 ⊢;rw[List.map_cons,List.sum_cons,List.length_cons];omega
theorem iH {A B:Int}(hA:A<=12) (hB:B<=12):∀ {l m:List Bd},l.length=m.length->(∀ b∈l,Gd A B b)->(∀ b∈m,Gd A B b)->(∀ i,xk (l.getD i []) (m.getD i []))->l≠m->v9 l<v9 m
 | [],[],_,_,_,_,h=>absurd rfl h
 | [],_::_,h,_,_,_,_=>by simp at h
 | _::_,[],h,_,_,_,_=>by simp at h
 | b::l,c::m,hl,gb,gc,h,hne=>by
  have hl':l.length=m.length:=by simpa using hl
  have h0:xk b c:=h 0;have hs:∀ i,xk (l.getD i []) (m.getD i []):=λ i=>by simpa using h (i+1)
  have key:v9 l<=v9 m:=by
   by_cases e:l=m
   .rw[e];exact Nat.le_refl _
   .exact Nat.le_of_lt (iH hA hB hl' (λ x hx=>gb x (zMo _ hx)) (λ x hx=>gc x (zMo _ hx)) hs e)
  show (List.map mu (b::l)).sum<(List.map mu (c::m)).sum;rw[List.map_cons,List.sum_cons,List.map_cons,List.sum_cons];by_cases e:b=c
  .subst e;have:l≠m:=λ q=>hne (by rw[q]);have:=iH hA hB hl' (λ x hx=>gb x (zMo _ hx)) (λ x hx=>gc x (zMo _ hx)) hs this;unfold v9 at this;omega
  .have:=UP hA hB (gb b zMc) (gc c zMc) h0 e;unfold v9 at key;omega
noncomputable def u7 (F:zX) (fresh:List Nat) (p:Nat):Bool:=F.ws.any λ w=>decide (w.f=p)&&fresh.contains w.t
noncomputable def yk (F:zX) (last:List Bd) (fresh:List Nat):List Bd:=(List.range last.length).map λ p=>if u7 F fresh p=true then xx F last p else last.getD p []
noncomputable def xX (last following:List Bd):List Nat:=(List.range following.length).filter λ p=>decide (following.getD p []≠last.getD p [])
noncomputable def ot (F:zX):Nat->List (List Bd)->List Bd->List Nat->Option (List (List Bd))
 | 0,_,_,_=>none
 | n+1,told,last,fresh=>if fresh=[] then some (told++[last]) else
   let fo:=yk F last fresh
   let fr:=xX last fo
   if fr=[] then some (told++[last]) else ot F n (told++[last]) fo fr
structure St (F:zX) (last:List Bd) (fresh:List Nat):Prop where
 len:last.length=F.os.length
 gd:∀ b∈last,Gd F.A F.B b
 fr:∀ p<F.os.length,u7 F fresh p=false->(∃ w∈F.ws,w.f=p)->xx F last p=last.getD p []
 le:∀ p<F.os.length,(∃ w∈F.ws,w.f=p)->xk (xx F last p) (last.getD p [])
theorem bC {α:Type}(f:Nat->α) (n p:Nat) (d:α) (h:p<n):((List.range n).map f).getD p d=f p:=by
 rw[List.getD_eq_getElem?_getD,List.getElem?_map,List.getElem?_range h];rfl
theorem rN (F:zX) (last:List Bd) (fresh:List Nat):(yk F last fresh).length=last.length:=by unfold yk;simp
theorem St.at {F:zX}{last:List Bd}{fresh:List Nat}(s:St F last fresh) {p:Nat}(hp:p<F.os.length) (hw:∃ w∈F.ws,w.f=p):(yk F last fresh).getD p []=xx F last p:=by
 unfold yk;rw[bC _ _ _ _ (by rw[s.len];exact hp)];split
 .rfl
 .rename_i h;exact (s.fr p hp (by simpa using h) hw).symm
theorem Sk {F:zX}{fresh:List Nat}{p:Nat}(h:u7 F fresh p=true):∃ w∈F.ws,w.f=p:=by
 unfold u7 at h;obtain⟨w,h1,h2⟩:=List.any_eq_true.mp h;exact⟨w,h1,by simp at h2;exact h2.1⟩
theorem St.no {F:zX}{last:List Bd}{fresh:List Nat}(s:St F last fresh) {p:Nat}(hp:p<F.os.length) (hw:¬ ∃ w∈F.ws,w.f=p):(yk F last fresh).getD p []=last.getD p []:=by
 unfold yk;rw[bC _ _ _ _ (by rw[s.len];exact hp),if_neg (λ h=>hw (Sk h))]
theorem St.aD {F:zX}{last:List Bd}{fresh:List Nat}(s:St F last fresh) (p:Nat):xk ((yk F last fresh).getD p []) (last.getD p []):=by
 by_cases hp:p<F.os.length
 .by_cases hw:∃ w∈F.ws,w.f=p
  .rw[s.at hp hw];exact s.le p hp hw
  .rw[s.no hp hw];exact xk.refl _
 .have h1:(yk F last fresh).getD p []=[]:=by
   rw[List.getD_eq_getElem?_getD,List.getElem?_eq_none (by rw[rN,s.len];omega)];rfl
  rw[h1];intro q x;cases x
theorem St.next {F:zX}(ok:F.Ok) {last:List Bd}{fresh:List Nat}(s:St F last fresh):St F (yk F last fresh) (xX last (yk F last fresh)) where
 len:=by rw[rN,s.len]
 gd:=λ b hb=>by
  unfold yk at hb;obtain⟨p,hp,rfl⟩:=List.mem_map.mp hb;split
  .exact c7 ok last p
  .have hlt:=List.mem_range.mp hp;rw[List.getD_eq_getElem?_getD,List.getElem?_eq_getElem hlt];exact s.gd _ (List.getElem_mem hlt)
 fr:=λ p hp hn hw=>by
  rw[s.at hp hw];refine UJ F p λ w w1 w2=>?_;have hwt:=(ok.ws w w1).2;by_cases e:(yk F last fresh).getD w.t []=last.getD w.t []
  .exact e
  .have:u7 F (xX last (yk F last fresh)) p=true:=by
    unfold u7;refine List.any_eq_true.mpr ⟨w,w1,?_⟩;have:w.t∈xX last (yk F last fresh):=by
     unfold xX;exact List.mem_filter.mpr ⟨List.mem_range.mpr (by rw[rN,s.len];exact hwt),by simpa using e⟩
    simp[w2,this]
   rw[this] at hn;cases hn
 le:=λ p hp hw=>by
  rw[s.at hp hw];exact UK F p λ w w1 w2=>s.aD w.t
theorem SA {last fo:List Bd}(hl:fo.length=last.length) (h:xX last fo≠[]):fo≠last:=λ e=>h (by
 subst e;unfold xX;simp)
noncomputable def start (F:zX):List Bd:=List.replicate F.os.length xZ
theorem St.start {F:zX}(ok:F.Ok):St F (start F) (List.range F.os.length) where
 len:=by unfold RN.start;simp
 gd:=λ b hb=>by rw[List.eq_of_mem_replicate hb];exact Gd.xZ ok.a0 ok.b0
 fr:=λ p hp hn ⟨w,w1,w2⟩=>by
  have:u7 F (List.range F.os.length) p=true:=by
   unfold u7;refine List.any_eq_true.mpr ⟨w,w1,?_⟩;have:=(ok.ws w w1).2;simp[w2,this]
  rw[this] at hn;cases hn
 le:=λ p hp hw=>by
  have e:(RN.start F).getD p []=xZ:=by
   unfold RN.start;rw[List.getD_eq_getElem?_getD,List.getElem?_replicate,if_pos hp];rfl
  rw[e];exact (c7 ok _ p).Tp
theorem e_ {F:zX}(ok:F.Ok):∀ (n:Nat) (told:List (List Bd)) (last:List Bd) (fresh:List Nat),St F last fresh->v9 last<n->
  ∃ more last',ot F n told last fresh=some (told++last::more)/\(∀ r∈last::more,r.length=F.os.length/\∀ b∈r,Gd F.A F.B b)/\(last::more).getLast?=some last'/\more.length<=v9 last
 | 0,_,_,_,_,h=>by omega
 | n+1,told,last,fresh,s,h=>by
  unfold ot;split
  .exact⟨[],last,rfl,λ r hr=>by cases List.mem_singleton.mp hr;exact⟨s.len,s.gd⟩,rfl,Nat.zero_le _⟩
  .dsimp only;split
   .exact⟨[],last,rfl,λ r hr=>by cases List.mem_singleton.mp hr;exact⟨s.len,s.gd⟩,rfl,Nat.zero_le _⟩
   .rename_i hf;have s':=s.next ok;have hlt:v9 (yk F last fresh)<v9 last:=iH ok.a1 ok.b1 (rN ..) s'.gd s.gd s.aD (SA (rN ..) hf);obtain⟨more,last',e1,e2,e3,e4⟩:=e_ ok n (told++[last]) _ _ s' (by omega);refine⟨yk F last fresh::more,last',by rw[e1];simp,λ r hr=>?_,by rw[List.getLast?_cons_cons];exact e3,by rw[List.length_cons];omega⟩;rcases List.mem_cons.mp hr with e | e
    .subst e;exact⟨s.len,s.gd⟩
    .exact e2 r e
end RN
namespace yB
open PySem L2 L3 L5
def Z_:Sm:=
 (retS (kD (instS "int" (zf 0)) (cu (instS "bool" (zf 0)))))
def kQ:List T->Option T:=ye ["thing"] 1 Z_
def ZM:Sm:=
 (retS (zB wL (zb (zc zv (zf 0) (cS (.int 1))) zm)))
def qt:List T->Option T:=ye ["floor"] 1 ZM
def Yl:Sm:=
 (retS (kD (zc ny (zc zv (zf 0) (cS (.int 0))) (zc zv (zf 1) (cS (.int 0)))) (zc ny (zc zv (zf 0) (cS (.int 1))) (zc zv (zf 1) (cS (.int 1))))))
def pU:List T->Option T:=ye ["pair","other"] 2 Yl
def nZ:Sm:=
 (xo (p0 (sX (wb (zf 1))) (yu (zc wj (zc zv (zf 2) (cS (.int 1))) (zc zv (zc zv (zf 1) (oT (cS (.int 1)))) (cS (.int 1)))))) (uq 1 (zu 2)) xn)
def ZR:Sm:=
 (zx (vN 1 (xF zm))
 (zx (wO [2] (xG (zB qz (zb (zf 0) zm))) (zL 2) nZ)
 (retS (zB rp (zb (zf 1) zm)))))
def sd:List T->Option T:=ye ["pairs","least","pair"] 1 ZR
def qd:Sm:=
 (zx (uq 4 (bu (yu (zc (ym false) (zf 3) (cS (.int 0)))) (tupS (zb (zu 5) (zb (zu 6) zm))) (tupS (zb (zu 6) (zb (zu 5) zm)))))
 (zx (zS 5 (zc y_ (zf 5) (zc zv (zf 1) (cS (.int 2)))))
 (zS 6 (zB rO (zb (cS (.int 0)) (zb (zc uL (zf 6) (zc zv (zf 1) (cS (.int 3)))) zm))))))
def ZN:Sm:=
 (zx (zS 3 (zc zv (zf 1) (cS (.int 1))))
 (zx (vN 4 (xF zm))
 (zx (zS 5 (zc zv (zf 2) (zf 3)))
 (zx (zS 6 (zc zv (zf 2) (zc uL (cS (.int 1)) (zf 3))))
 (zx (pW 1000000 [] (yu (zc rS (zf 5) (zc zv (zf 0) (zf 3)))) qd)
 (qE 4))))))
def mv:List T->Option T:=ye ["brims","stall","pair","purse","pairs","given","got"] 3 ZN
def ZW:Sm:=
 (zx (xo (yu (zc wj (zf 1) (zB wL (zb (zf 0) zm)))) (retS (zc z_ (zc zv (zf 0) (zf 1)) (zc dB (cS (.int 10)) (cS (.int 40))))) xn)
 (retS (cS (.int 0))))
def yC:List T->Option T:=ye ["_law_script","_law_k"] 2 ZW
def fR:Sm:=
 (zx (xo (yu (zc (ym false) (zc z_ (zf 0) (cS (.int 5))) (cS (.int 1)))) (retS (zc uL (zc z_ (zc yG (zf 0) (cS (.int 5))) (cS (.int 25))) (cS (.int 12)))) xn)
 (retS (zc uL (zc z_ (zc z_ (zc yG (zf 0) (cS (.int 5))) (cS (.int 25))) (cS (.int 7))) (cS (.int 3)))))
def se:List T->Option T:=ye ["_law_number"] 1 fR
def gH:Sm:=
 (xo (rY (yu (zc ny (zc zv (zf 1) (cS (.int 0))) (zf 2))) (yu (zc ny (zc zv (zf 1) (cS (.int 1))) (zf 3)))) (retS (cS (.bl true))) xn)
def ZV:Sm:=
 (zx (wO [2,3] (xG (zu 0)) (vi 2 (xp (zL 2) (xp (zL 3) ud))) gH)
 (retS (cS (.bl false))))
def my:List T->Option T:=ye ["_law_border","_law_pair","_law_x","_law_y"] 2 ZV
def ZZ:Sm:=
 (retS (kD (zB kQ (zb (zu 0) zm)) (aG rS rS (zf 1) (zf 0) (zf 2))))
def mz:List T->Option T:=ye ["thing","least","most"] 3 ZZ
def kx:Ev->Option T:=
 wM [none,some 1] (xG (zf 0)) (zL 0) ra (zB pU (zb (zu 1) (zb (zu 0) zm)))
def Yb:Sm:=
 (retS (zB (kz λ bs=>bs.any id) (zb kx zm)))
def m6:List T->Option T:=ye ["border","pair"] 2 Yb
def aJ:Ev->Option T:=
 wM [none] (xG (zf 0)) (zL 0) ra (tupS (zb (zc zv (zf 0) (cS (.int 0))) (zb (cS (.int 0)) (zb (zc zv (zf 0) (cS (.int 1))) zm))))
def aI:Ev->Option T:=
 wM [none] (xG (zf 1)) (zL 0) ra (tupS (zb (zc zv (zf 0) (cS (.int 0))) (zb (cS (.int 1)) (zb (zc zv (zf 0) (cS (.int 1))) zm))))
def k8:Sm:=
 (zx (b_ 3 (zf 6) (zB lJ (zb (zf 7) (zb (ae 3 (zf 6) (zu 7)) zm))))
 (xo (yu (zc (ym false) (gw 3) (cS (.int 2)))) (uq 4 (tupS (zb (zu 5) (zb (zB rO (zb (gy 3 (cS (.int 0))) (zb (gy 3 (cS (.int 1))) zm))) zm)))) xn))
def Yg:Sm:=
 (zx (zS 2 (zc y_ aJ aI))
 (zx (aa 3)
 (zx (vN 4 (xF zm))
 (zx (wO [5,6,7] (xG (zB qz (zb (zf 2) zm))) (vi 3 (xp (zL 5) (xp (zL 6) (xp (zL 7) ud)))) k8)
 (gi 4 (retS (zB sd (zb (zu 4) zm))))))))
def mB:List T->Option T:=ye ["border","other","steps","lows","shared","first","side","second"] 2 Yg
def Yd:Sm:=
 (retS (zB sd (zb (zc y_ (zB listS (zb (zf 0) zm)) (zB listS (zb (zf 1) zm))) zm)))
def m7:List T->Option T:=ye ["border","other"] 2 Yd
def ky:Ev->Option T:=
 wM [none,some 1] (xG (zf 2)) (zL 0) ra (tupS (zb (zB rO (zb (cS (.int 0)) (zb (zc uL (zc zv (zf 0) (cS (.int 0))) (zc zv (zf 1) (cS (.int 2)))) zm))) (zb (zB rO (zb (cS (.int 0)) (zb (zc uL (zc zv (zf 0) (cS (.int 1))) (zc zv (zf 1) (cS (.int 3)))) zm))) zm)))
def km:Ev->Option T:=
 wM [none,some 0] (xG (zf 3)) (zL 0) (wb (zB pU (zb (zu 1) (zb (zu 0) zm)))) (zu 0)
def Yk:Sm:=
 (zx (zS 3 ky)
 (retS (zB sd (zb km zm))))
def mE:List T->Option T:=ye ["brims","way","border","pairs"] 3 Yk
def ZX:Sm:=
 (zx (zS 2 (zB yC (zb (zu 0) (zb (cS (.int 1)) zm))))
 (zx (zS 3 (xF (zb (zc zv (xF (zb (cS (.int 3)) (zb (cS (.int 2)) (zb (cS (.int 4)) (zb (cS (.int 1)) (zb (cS (.int 5)) (zb (cS (.int 2)) (zb (cS (.int 3)) (zb (cS (.int 0)) zm))))))))) (zc z_ (zf 2) (cS (.int 8)))) (zb (zc zv (xF (zb (cS (.int 2)) (zb (cS (.int 3)) (zb (cS (.int 1)) (zb (cS (.int 4)) (zb (cS (.int 2)) (zb (cS (.int 5)) (zb (cS (.int 3)) (zb (cS (.int 0)) zm))))))))) (zc z_ (zc yG (zf 2) (cS (.int 8))) (cS (.int 8)))) zm))))
 (zx (xo (yu (zc nj (zf 1) (cS (.int 4)))) (retS (tupS (zb (zB lJ (zb (zc zv (zf 3) (cS (.int 0))) (zb (cS (.int 2)) zm))) (zb (zB lJ (zb (zc zv (zf 3) (cS (.int 1))) (zb (cS (.int 2)) zm))) zm)))) xn)
 (zx (xo (yu (zc (ym false) (zc z_ (zc yG (zf 2) (cS (.int 64))) (cS (.int 10))) (cS (.int 1)))) (retS (tupS (zb (cS (.int 12)) (zb (zc z_ (zc zv (zf 3) (cS (.int 1))) (cS (.int 3))) zm)))) xn)
 (zx (xo (yu (zc (ym false) (zc z_ (zc yG (zf 2) (cS (.int 64))) (cS (.int 10))) (cS (.int 2)))) (retS (tupS (zb (zc z_ (zc zv (zf 3) (cS (.int 0))) (cS (.int 3))) (zb (cS (.int 12)) zm)))) xn)
 (zx (xo (rY (yu (zc (ym false) (zc z_ (zc yG (zf 2) (cS (.int 64))) (cS (.int 10))) (cS (.int 3)))) (yu (zc wj (zf 1) (cS (.int 3))))) (retS (tupS (zb (cS (.int 12)) (zb (cS (.int 12)) zm)))) xn)
 (retS (zB rp (zb (zf 3) zm)))))))))
def pP:List T->Option T:=ye ["_law_script","_law_many","_law_number","_law_found"] 2 ZX
def k7:Sm:=
 (zx (uq 3 (zc zv (xF (zb (cS (.str "keeper")) (zb (cS (.str "taker")) zm))) (zc z_ (zf 2) (cS (.int 2)))))
 (zS 2 (zc yG (zf 2) (cS (.int 2)))))
def ZU:Sm:=
 (zx (zS 2 (zB yC (zb (zu 0) (zb (cS (.int 2)) zm))))
 (zx (vN 3 (xF zm))
 (zx (wO [4] (vD sG (zb (zf 1) zm)) (zL 4) k7)
 (retS (zB rp (zb (zf 3) zm))))))
def pN:List T->Option T:=ye ["_law_script","_law_many","_law_number","_law_found","_law_place"] 2 ZU
def pD:Sm:=
 (zx (zS 8 (zc y_ (zc wg (zf 3) (zf 5)) (zf 7)))
 (zx (zS 9 (zc z_ (zc y_ (zc y_ (zc wg (zB yC (zb (zu 0) (zb (zc y_ (cS (.int 4)) (zf 8)) zm))) (cS (.int 2957))) (zc wg (cS (.int 61)) (zf 8))) (cS (.int 17))) (cS (.int 999983))))
 (zx (zS 10 (zc yG (zf 9) (cS (.int 8))))
 (uq 4 (tupS (zb (zu 5) (zb (zc z_ (zc z_ (zf 9) (cS (.int 8))) (zf 1)) (zb (zB se (zb (zu 10) zm)) (zb (zB se (zb (zc yG (zf 10) (cS (.int 125))) zm)) zm)))))))))
def k5:Sm:=
 (zx (zS 6 (zc y_ (cS (.int 1)) (zc z_ (zf 2) (cS (.int 3)))))
 (zx (xo (rY (yu (zc wj (zf 1) (cS (.int 3)))) (yu (zc (ym false) (zc z_ (zc yG (zf 2) (cS (.int 3))) (cS (.int 8))) (cS (.int 1))))) (zS 6 (zc y_ (cS (.int 9)) (zf 6))) xn)
 (zx (wO [7,8,9,10] (vD sG (zb (zf 6) zm)) (zL 7) pD)
 (zS 2 (zc yG (zf 2) (cS (.int 24)))))))
def ZS:Sm:=
 (zx (zS 2 (zB yC (zb (zu 0) (zb (cS (.int 3)) zm))))
 (zx (zS 3 (zc zv (xF (zb (cS (.int 3)) (zb (cS (.int 12)) zm))) (zB iZ (zb (zc wj (zf 1) (cS (.int 3))) zm))))
 (zx (vN 4 (xF zm))
 (zx (wO [5,6,7,8,9,10] (vD sG (zb (zf 1) zm)) (zL 5) k5)
 (retS (zB rp (zb (zB r9 (zb (zf 4) zm)) zm)))))))
def pL:List T->Option T:=ye ["_law_script","_law_many","_law_number","_law_wide","_law_found","_law_place","_law_size","_law_k","_law_at","_law_drawn","_law_rest"] 2 ZS
def n_:Sm:=
 (zx (zS 4 (zc z_ (zc y_ (zc y_ (zc wg (zB yC (zb (zu 0) (zb (zc y_ (cS (.int 28)) (zf 3)) zm))) (cS (.int 3571))) (zc wg (cS (.int 29)) (zf 3))) (cS (.int 5))) (cS (.int 999979))))
 (xo (rY (yu (zc (ym false) (zc zv (zf 1) (zf 3)) (cS (.str "keeper")))) (yu (zc (ym false) (zc z_ (zf 4) (cS (.int 3))) (cS (.int 1))))) (zx (zS 5 (zc yG (zf 4) (cS (.int 6))))
 (zx (zS 6 (zc y_ (cS (.int 1)) (zc zv (xF (zb (zc z_ (zf 5) (cS (.int 3))) (zb (zc z_ (zf 5) (cS (.int 3))) (zb (zc z_ (zf 5) (cS (.int 12))) zm)))) (zc z_ (zc yG (zf 5) (cS (.int 12))) (cS (.int 3))))))
 (zx (zS 7 (zc zv (xF (zb (zc z_ (zc yG (zf 5) (cS (.int 36))) (cS (.int 4))) (zb (zc z_ (zc yG (zf 5) (cS (.int 36))) (cS (.int 4))) (zb (zc z_ (zc yG (zf 5) (cS (.int 36))) (cS (.int 13))) zm)))) (zc z_ (zc yG (zf 5) (cS (.int 468))) (cS (.int 3)))))
 (uq 2 (tupS (zb (zu 3) (zb (zc z_ (zc yG (zf 4) (cS (.int 3))) (cS (.int 2))) (zb (zu 6) (zb (zu 7) zm))))))))) xn))
def ZT:Sm:=
 (zx (vN 2 (xF zm))
 (zx (wO [3,4,5,6,7] (vD sG (zb (zB wL (zb (zf 1) zm)) zm)) (zL 3) n_)
 (retS (zB rp (zb (zf 2) zm)))))
def pM:List T->Option T:=ye ["_law_script","_law_owners_here","_law_found","_law_place","_law_drawn","_law_rest","_law_give","_law_get"] 2 ZT
def ma:Sm:=
 (zx (zS 6 (zB yC (zb (zu 0) (zb (zc y_ (cS (.int 37)) (zf 5)) zm))))
 (uq 4 (tupS (zb (zc z_ (zf 6) (zc y_ (zc zv (zc zv (zf 1) (cS (.int 0))) (cS (.int 0))) (cS (.int 1)))) (zb (zc z_ (zc yG (zf 6) (cS (.int 13))) (zc y_ (zc zv (zc zv (zf 1) (cS (.int 0))) (cS (.int 1))) (cS (.int 1)))) zm)))))
def fS:Sm:=
 (zx (vN 4 (xF (zb (tupS (zb (cS (.int 0)) (zb (cS (.int 0)) zm))) (zb (zc zv (zf 1) (cS (.int 0))) zm))))
 (zx (wO [5,6] (vD sG (zb (zc z_ (zB yC (zb (zu 0) (zb (cS (.int 36)) zm))) (cS (.int 4))) zm)) (zL 5) ma)
 (zx (zS 7 (zc yG (zB yC (zb (zu 0) (zb (cS (.int 36)) zm))) (cS (.int 4))))
 (zx (xo (yu (zc nj (zB wL (zb (zf 3) zm)) (cS (.int 0)))) (zx (eA (zc zv (zf 3) (zc z_ (zc yG (zf 7) (cS (.int 8))) (zB wL (zb (zf 3) zm)))) (vi 2 (xp (zL 8) (xp (zL 9) ud))))
 (vN 4 (zc y_ (zf 4) (xF (zb (tupS (zb (zu 8) (zb (zu 9) zm))) (zb (tupS (zb (zB rO (zb (cS (.int 0)) (zb (zc uL (zf 8) (cS (.int 1))) zm))) (zb (zu 9) zm))) (zb (tupS (zb (zu 8) (zb (zB rO (zb (cS (.int 0)) (zb (zc uL (zf 9) (cS (.int 1))) zm))) zm))) zm))))))) xn)
 (qE 4)))))
def pQ:List T->Option T:=ye ["_law_script","_law_floor_here","_law_place","_law_border","_law_found","_law_k","_law_cell_here","_law_at","_law_x","_law_y"] 4 fS
def ku:Ev->Option T:=
 wM [none,none] (vD kU (zb (zf 0) (zb (zf 1) zm))) (vi 2 (xp (zL 0) (xp (zL 1) ud))) ra (zB mz (zb (zu 0) (zb (zc zv (zf 1) (cS (.int 0))) (zb (zc zv (zf 1) (cS (.int 1))) zm))))
def Ya:Sm:=
 (zx (xo (p0 (sX (wb (instS "tuple" (zf 0)))) (yu (zc (ym true) (zB wL (zb (zf 0) zm)) (zB wL (zb (zf 1) zm))))) (retS (cS (.bl false))) xn)
 (retS (zB (kz λ bs=>bs.all id) (zb ku zm))))
def m5:List T->Option T:=ye ["thing","bounds"] 2 Ya
def Ye:Sm:=
 (xo (sX (wb (zB mz (zb (zu 1) (zb (cS (.int 0)) (zb (zc uL (zB qt (zb (zu 0) zm)) (cS (.int 1))) zm)))))) i9 xn)
def qu:List T->Option T:=ye ["floor","place"] 2 Ye
def k9:Sm:=
 (zS 1 (zB m7 (zb (zu 1) (zb (zu 2) zm))))
def Yi:Sm:=
 (zx (zS 1 (tupS zm))
 (zx (wO [2] (xG (zu 0)) (zL 2) k9)
 (retS (zu 1))))
def mC:List T->Option T:=ye ["borders","joined","border"] 1 Yi
def kA:Sm:=
 (zS 1 (zB mB (zb (zu 1) (zb (zu 2) zm))))
def Yj:Sm:=
 (zx (zS 1 (tupS (zb (tupS (zb (cS (.int 0)) (zb (cS (.int 0)) zm))) zm)))
 (zx (wO [2] (xG (zu 0)) (zL 2) kA)
 (retS (zu 1))))
def mD:List T->Option T:=ye ["borders","joined","border"] 1 Yj
def fQ:Sm:=
 (zx (zS 1 (zB yC (zb (zu 0) (zb (cS (.int 0)) zm))))
 (zx (zS 2 (zc zv (xF (zb (cS (.int 2)) (zb (cS (.int 3)) (zb (cS (.int 1)) (zb (cS (.int 4)) (zb (cS (.int 3)) (zb (cS (.int 2)) (zb (cS (.int 4)) (zb (zc y_ (cS (.int 5)) (zc z_ (zc yG (zf 1) (cS (.int 8))) (cS (.int 4)))) zm))))))))) (zc z_ (zf 1) (cS (.int 8)))))
 (zx (zS 3 (zB pN (zb (zu 0) (zb (zu 2) zm))))
 (zx (zS 4 (zB pP (zb (zu 0) (zb (zu 2) zm))))
 (zx (zS 5 (zB pL (zb (zu 0) (zb (zu 2) zm))))
 (zx (zS 6 (zB pM (zb (zu 0) (zb (zu 3) zm))))
 (zx (xo (rY (yu (zc (ym false) (zf 4) (tupS (zb (cS (.int 12)) (zb (cS (.int 12)) zm))))) (p0 (yu (zc nj (zB wL (zb (zf 5) zm)) (cS (.int 6)))) (yu (zc nj (zB wL (zb (zf 6) zm)) (cS (.int 0)))))) (zS 4 (tupS (zb (cS (.int 12)) (zb (cS (.int 3)) zm)))) xn)
 (retS (tupS (zb (zu 4) (zb (zu 3) (zb (zu 5) (zb (zu 6) zm)))))))))))))
def pO:List T->Option T:=ye ["_law_script","_law_number","_law_many","_law_owners_here","_law_brims_here","_law_ways_here","_law_stalls_here"] 1 fQ
def Yf:Sm:=
 (xo (sX (wb (zB m5 (zb (zu 1) (zb (tupS (zb (tupS (zb (cS (.int 0)) (zb (zc zv (zc zv (zf 0) (cS (.int 0))) (cS (.int 0))) zm))) (zb (tupS (zb (cS (.int 0)) (zb (zc zv (zc zv (zf 0) (cS (.int 0))) (cS (.int 1))) zm))) zm))) zm))))) i9 xn)
def m9:List T->Option T:=ye ["floor","pair"] 2 Yf
def ko:Ev->Option T:=
 wM [none,none,some 1] (vD sW (zb (zc zv (zf 0) (cS (.int 2))) zm)) (vi 2 (xp (zL 0) (xp (zL 1) ud))) (yu (zc (ym false) (zc zv (zf 1) (cS (.int 0))) (zf 2))) (zu 0)
def ZJ:Sm:=
 (zx (nI (zB qu (zb (zu 0) (zb (zu 1) zm))))
 (retS ko))
def mr:List T->Option T:=ye ["floor","place"] 2 ZJ
def nY:Sm:=
 (xo (yu (zc (ym false) (zc zv (zf 2) (cS (.int 0))) (zf 1))) (retS (zu 2)) xn)
def ZK:Sm:=
 (zx (nI (zB qu (zb (zu 0) (zb (zu 1) zm))))
 (zx (wO [2] (xG (zc zv (zf 0) (cS (.int 3)))) (zL 2) nY)
 (retS (cS .zk))))
def qq:List T->Option T:=ye ["floor","place","stall"] 2 ZK
def kB:Sm:=
 (gq 4 (zB mv (zb (zc zv (zf 0) (cS (.int 0))) (zb (zu 3) (zb (zu 5) zm)))))
def fT:Sm:=
 (zx (zS 3 (zB qq (zb (zu 0) (zb (zu 1) zm))))
 (zx (xo (yu (zc (nc false) (zf 3) (cS .zk))) (retS (zu 2)) xn)
 (zx (vN 4 (xF zm))
 (zx (wO [5] (xG (zu 2)) (zL 5) kB)
 (gi 4 (retS (zB sd (zb (zu 4) zm))))))))
def pT:List T->Option T:=ye ["floor","place","border","stall","pairs","pair"] 3 fT
def kr:Ev->Option T:=
 wM [none,some 0] (xG (zB mr (zb (zu 0) (zb (zu 1) zm)))) (zL 0) ra (zc zv (zc zv (zf 1) (cS (.int 2))) (zf 0))
def kl:Ev->Option T:=
 wM [none,some 0,some 2] (xG (zf 3)) (zL 0) ra (zB mE (zb (zc zv (zf 1) (cS (.int 0))) (zb (zu 0) (zb (zc zv (zf 2) (zc zv (zf 0) (cS (.int 1)))) zm))))
def ZQ:Sm:=
 (zx (zS 3 kr)
 (zx (zS 4 kl)
 (zx (xo (yu (zc (ym false) (zc zv (zc zv (zf 0) (cS (.int 1))) (zf 1)) (cS (.str "keeper")))) (retS (zB pT (zb (zu 0) (zb (zu 1) (zb (zB mC (zb (zu 4) zm)) zm))))) xn)
 (retS (zB mD (zb (zu 4) zm))))))
def mx:List T->Option T:=ye ["floor","place","last","ways","ahead"] 3 ZQ
def kq:Ev->Option T:=
 wM [none,some 2] (xG (zc zv (zf 0) (cS (.int 2)))) (zL 0) (yu (zc (qX false) (zc zv (zf 0) (cS (.int 1))) (zf 1))) (zc zv (zf 0) (cS (.int 0)))
def k6:Sm:=
 (cC 3 (zf 4) (zB mx (zb (zu 0) (zb (zu 4) (zb (zu 1) zm)))))
def ZO:Sm:=
 (zx (vN 3 (zB listS (zb (zf 1) zm)))
 (zx (wO [4] (xG (zB r9 (zb kq zm))) (zL 4) k6)
 (qE 3)))
def pK:List T->Option T:=ye ["floor","last","fresh","following","place"] 3 ZO
def nX:Ev->Option T:=
 wM [none,none,some 3] (vD sW (zb (zf 4) zm)) (vi 2 (xp (zL 0) (xp (zL 1) ud))) (yu (zc (ym true) (zf 1) (zc zv (zf 2) (zf 0)))) (zu 0)
def tm:Sm:=
 (zx (zS 3 (zc zv (zf 1) (oT (cS (.int 1)))))
 (zx (zS 4 (zB pK (zb (zu 0) (zb (zu 3) (zb (zu 2) zm)))))
 (zx (zS 2 nX)
 (xo (wb (zf 2)) (uq 1 (zu 4)) xn))))
def ZL:Sm:=
 (zx (vN 1 (xF (zb (zc wg (xF (zb (tupS (zb (tupS (zb (cS (.int 0)) (zb (cS (.int 0)) zm))) zm)) zm)) (zB qt (zb (zu 0) zm))) zm)))
 (zx (zS 2 (zB oX (zb (zB qt (zb (zu 0) zm)) zm)))
 (zx (pW 1000000 [3,4] (wb (zf 2)) tm)
 (qE 1))))
def rh:List T->Option T:=ye ["floor","told","fresh","last","following"] 1 ZL
def Yh:Sm:=
 (retS (zc zv (zB rh (zb (zu 0) zm)) (oT (cS (.int 1)))))
def sg:List T->Option T:=ye ["floor"] 1 Yh
def Yc:Sm:=
 (zx (nI (zB qu (zb (zu 0) (zb (zu 1) zm))))
 (zx (nI (zB m9 (zb (zu 0) (zb (zu 2) zm))))
 (retS (zB m6 (zb (zc zv (zB sg (zb (zu 0) zm)) (zf 1)) (zb (zu 2) zm))))))
def pS:List T->Option T:=ye ["floor","place","pair"] 3 Yc
def md:Sm:=
 (zx (zS 5 (zB pS (zb (zu 1) (zb (zu 3) (zb (zu 4) zm)))))
 (xo (p0 (sX (wb (instS "bool" (zf 5)))) (yu (zc (ym true) (zf 5) (zB my (zb (zc zv (zf 2) (zf 3)) (zb (zu 4) zm)))))) (retS (cS (.bl false))) xn))
def ZY:Sm:=
 (zx (zS 1 (zB pO (zb (zu 0) zm)))
 (zx (zS 2 (zB sg (zb (zu 1) zm)))
 (zx (xo (p0 (sX (wb (instS "list" (zf 2)))) (yu (zc (ym true) (zf 2) (zc zv (zB rh (zb (zu 1) zm)) (oT (cS (.int 1))))))) (retS (cS (.bl false))) xn)
 (zx (zS 3 (zc z_ (zc yG (zB yC (zb (zu 0) (zb (cS (.int 36)) zm))) (cS (.int 4))) (zB wL (zb (zc zv (zf 1) (cS (.int 1))) zm))))
 (zx (wO [4,5] (xG (zB pQ (zb (zu 0) (zb (zu 1) (zb (zu 3) (zb (zc zv (zf 2) (zf 3)) zm)))))) (zL 4) md)
 (zx (vN 6 (zB listS (zb (zf 2) zm)))
 (zx (kW 2)
 (retS (zc (ym false) (zB sg (zb (zu 1) zm)) (zf 6))))))))))
def pR:List T->Option T:=ye ["_law_script","_law_floor_here","_law_found","_law_place","_law_pair","_law_told","_law_kept"] 1 ZY
end yB
namespace yB
open PySem L2 L3 L5
theorem Xd (ps:List (Int×Int)) (h:ps.length<64):qz [.lst (ps.map zr)]=some (.lst ((t7 ps).map zr)):=by
 show (vX (ps.map zr)).bind _=_;rw[X3,Option.bind_some,if_pos ⟨by simpa using h,λ r hr=>by obtain⟨p,_,rfl⟩:=List.mem_map.mp hr;simp[vy]⟩,<- eL,List.map_map];rfl
noncomputable def cell (ns:List Int) (k:Nat):Int:=if k<ns.length then ns.getD k 0%10 ^ 40 else 0
theorem sf (ns:List Int) (k:Nat):yC [zP ns,.int (k:Int)]=some (.int (cell ns k)):=by
 unfold yC ZW cell zP;by_cases h:k<ns.length
 .have e:L2.yd (ns.map T.int) (k:Int)=some (.int (ns.getD k 0)):=uo (by simp[h]);simp[h,e,qw,wj]
 .simp[h,wj]
theorem Q8 (b:T) (ps:List (Int×Int)) (q:Int×Int) (hb:xS b=some (ps.map zr)):my [b,zr q]=some (.bl (yf ps q)):=by
 have h:=iO (is:=[2,3]) (g:=vi 2 (xp (zL 2) (xp (zL 3) ud))) (b:=gH) zr (xW q) (.bl true) [some (.im b),some (.im (zr q)),none,none] ps [some (.im b),some (.im (zr q)),none,none] (by simp) λ p hp=>⟨[some (.im b),some (.im (zr q)),some (.im (.int p.1)),some (.im (.int p.2))],by simp,by
  by_cases h1:p.1<=q.1 <;> by_cases h2:p.2<=q.2 <;> simp[turn,gH,zr,xW,h1,h2]⟩
 unfold my ZV;simp only[wO,xG,zu,ye,zx,uM] at h ⊢;simp[hb,h];unfold yf;cases ps.any (xW q) <;> simp
theorem So {qs p:List (Int×Int)}{x:Int×Int}(hr:∀ r,qs++yR r (qs.getLast?.map (·.2))=yR (p++r) none) (hb:tj (qs.getLast?.map (·.2)) x.2=true) (r:List (Int×Int)):
  (qs++[x])++yR r ((qs++[x]).getLast?.map (·.2))=yR (p++[x]++r) none:=by
 have:=hr (x::r);rw[show yR (x::r) (qs.getLast?.map (·.2))=x::yR r (some x.2) by rw[yR,if_pos hb]] at this;simpa using this
theorem Sq {qs p:List (Int×Int)}{x:Int×Int}(hr:∀ r,qs++yR r (qs.getLast?.map (·.2))=yR (p++r) none) (hb:tj (qs.getLast?.map (·.2)) x.2=false) (r:List (Int×Int)):
  qs++yR r (qs.getLast?.map (·.2))=yR (p++[x]++r) none:=by
 have:=hr (x::r);rw[show yR (x::r) (qs.getLast?.map (·.2))=yR r (qs.getLast?.map (·.2)) by rw[yR,if_neg (by rw[hb];nofun)]] at this;simpa using this
theorem kP (ps:List (Int×Int)) (hl:ps.length<64):sd [.lst (ps.map zr)]=some (.tup ((w_ ps).map zr)):=by
 obtain⟨ρ',h1,qs,h2,h3,h4⟩:=u5 (is:=[2]) (g:=zL 2) (b:=nZ) zr (λ p ρ=>∃ qs:List (Int×Int),ρ=[some (.im (.lst (ps.map zr))),some (.own (.lst (qs.map zr))),none]/\qs.length<=p.length/\
   ∀ r,qs++yR r (qs.getLast?.map (·.2))=yR (p++r) none) (t7 ps) [some (.im (.lst (ps.map zr))),some (.own (.lst [])),none] ⟨[],by simp,by simp,λ r=>by simp⟩ (by
  rintro p x q e ρ ⟨qs,rfl,hq,hr⟩;have hlen:p.length<64:=by
   have:=congrArg List.length e;rw[(jo ps).length_eq] at this;simp at this;omega
  have app:tj (qs.getLast?.map (·.2)) x.2=true->∃ qs':List (Int×Int),yS [2] [some (.im (.lst (ps.map zr))),some (.own (.lst (qs.map zr++[zr x]))),some (.im (zr x))]=[some (.im (.lst (ps.map zr))),some (.own (.lst (qs'.map zr))),none]/\qs'.length<=(p++[x]).length/\∀ r,qs'++yR r (qs'.getLast?.map (·.2))=yR (p++[x]++r) none:=λ hb=>
   ⟨qs++[x],by simp,by simp;omega,So hr hb⟩
  rcases List.eq_nil_or_concat qs with rfl | ⟨init,l,rfl⟩
  .refine⟨_,?_,app (by simp[tj])⟩;simp[turn,nZ]
  .simp only[List.concat_eq_append] at *;by_cases hb:x.2<l.2
   .refine⟨_,?_,app (by simp[tj,hb])⟩;simp at hq;simp[turn,nZ,zr,hb,wj];omega
   .refine⟨[some (.im (.lst (ps.map zr))),some (.own (.lst ((init++[l]).map zr))),some (.im (zr x))],?_,init++[l],by simp,by simp at hq ⊢;omega,Sq hr (by simp[tj];omega)⟩;simp[turn,nZ,zr,hb,wj])
 have h5:=h4 [];simp[yR] at h5;unfold sd ZR;simp[Xd ps hl,h1,h2,h5,w_]
theorem QD (b o:List (Int×Int)) (hl:b.length+o.length<64):m7 [.tup (b.map zr),.tup (o.map zr)]=some (.tup ((w_ (b++o)).map zr)):=by
 have h:=kP (b++o) (by simpa using hl);rw[List.map_append] at h;have:b.length+o.length<=16777216:=by omega
 unfold m7 Yd;simp[h,this]
end yB
namespace yB
open PySem L2 L3 L5
noncomputable def r0 (p:Int×Int):List Int:=[p.1,0,p.2]
noncomputable def r1 (p:Int×Int):List Int:=[p.1,1,p.2]
noncomputable def xl (l:Option Int) (v:Int):Int:=match l with
 | none=>v
 | some m=>if m<v then m else v
noncomputable def vZ (l:Option Int) (sh:List (Int×Int)) (f:Int->Int×Int):List (Int×Int):=match l with
 | some m=>sh++[f m]
 | none=>sh
structure Sw (b o:List (Int×Int)) (p:List (List Int)) (l0 l1:Option Int) (sh:List (Int×Int)):Prop where
 iL:∀ x,r0 x∈p->∃ m,l0=some m/\m<=x.2
 iK:∀ x,r1 x∈p->∃ m,l1=some m/\m<=x.2
 gK:∀ m,l0=some m->∃ x,r0 x∈p/\x.2=m
 gJ:∀ m,l1=some m->∃ x,r1 x∈p/\x.2=m
 len:sh.length<=p.length
 snd:∀ s∈sh,(∃ x,r0 x∈p/\x.1<=s.1/\x.2<=s.2)/\∃ x,r1 x∈p/\x.1<=s.1/\x.2<=s.2
 all:∀ x y,r0 x∈p->r1 y∈p->∃ s∈sh,(s.1<=x.1\/s.1<=y.1)/\(s.2<=x.2\/s.2<=y.2)
theorem lp {x y:Int×Int}(h:r0 x=r0 y):x=y:=by
 unfold r0 at h;injection h with h1 h2;injection h2 with _ h2;injection h2 with h2 _;exact Prod.ext h1 h2
theorem ll {x y:Int×Int}(h:r1 x=r1 y):x=y:=by
 unfold r1 at h;injection h with h1 h2;injection h2 with _ h2;injection h2 with h2 _;exact Prod.ext h1 h2
theorem qF {x y:Int×Int}(h:r0 x=r1 y):False:=by
 unfold r0 r1 at h;injection h with h1 h2;injection h2 with h2 _;omega
theorem uT {p:List (List Int)}{a x:List Int}(h:a∈p++[x]):a∈p\/a=x:=by simpa using h
theorem Sw.YX {b o:List (Int×Int)}{p:List (List Int)}{l0 l1:Option Int}{sh:List (Int×Int)}(h:Sw b o p l0 l1 sh) (x:Int×Int) (hx:∀ y,r0 y∈p->y.1<=x.1) (hy:∀ y,r1 y∈p->y.1<=x.1):
  Sw b o (p++[r0 x]) (some (xl l0 x.2)) l1 (vZ l1 sh λ m=>(x.1,if m>xl l0 x.2 then m else xl l0 x.2)):=by
 have lo:xl l0 x.2<=x.2/\∀ m,l0=some m->xl l0 x.2<=m:=by
  unfold xl;cases l0 with
  | none=>exact⟨Int.le_refl _,nofun⟩
  | some m=>dsimp only;split <;> refine⟨by omega,λ m' e=>?_⟩ <;> cases e <;> omega
 have la:∃ y,r0 y∈p++[r0 x]/\y.2=xl l0 x.2:=by
  unfold xl;cases l0 with
  | none=>exact⟨x,by simp,rfl⟩
  | some m=>
   dsimp only;split
   .obtain⟨y,h1,h2⟩:=h.gK m rfl;exact⟨y,by simp[h1],h2⟩
   .exact⟨x,by simp,rfl⟩
 have snd':∀ s∈sh,(∃ x',r0 x'∈p++[r0 x]/\x'.1<=s.1/\x'.2<=s.2)/\∃ x',r1 x'∈p++[r0 x]/\x'.1<=s.1/\x'.2<=s.2:=λ s hs=>by
  obtain⟨⟨a,a1,a2⟩,c,c1,c2⟩:=h.snd s hs;exact⟨⟨a,by simp[a1],a2⟩,c,by simp[c1],c2⟩
 refine⟨λ y hm=>?_,λ y hm=>?_,λ m e=>?_,λ m e=>?_,?_,λ s hs=>?_,λ y z hm hz=>?_⟩
 .rcases uT hm with q | q
  .obtain⟨m,e,q2⟩:=h.iL y q;exact⟨_,rfl,by have:=lo.2 m e;omega⟩
  .cases lp q;exact⟨_,rfl,lo.1⟩
 .rcases uT hm with q | q
  .exact h.iK y q
  .exact (qF q.symm).elim
 .cases e;exact la
 .obtain⟨y,q1,q2⟩:=h.gJ m e;exact⟨y,by simp[q1],q2⟩
 .have:=h.len;cases l1 <;> simp[vZ] <;> omega
 .cases l1 with
  | none=>exact snd' s hs
  | some m=>
   rcases List.mem_append.mp hs with q | q
   .exact snd' s q
   .obtain rfl:s=_:=by simpa using q
    obtain⟨y,y1,y2⟩:=la;obtain⟨z,z1,z2⟩:=h.gJ m rfl;have hzx:=hy z z1;refine⟨⟨y,y1,?_,by dsimp only;split <;> omega⟩,z,by simp[z1],hzx,by dsimp only;split <;> omega⟩;rcases uT y1 with w | w
    .exact hx y w
    .cases lp w;exact Int.le_refl _
 .have hz':r1 z∈p:=by
   rcases uT hz with q | q
   .exact q
   .exact (qF q.symm).elim
  rcases uT hm with q | q
  .obtain⟨s,s1,s2⟩:=h.all y z q hz';refine⟨s,?_,s2⟩;cases l1 <;> simp[vZ,s1]
  .cases lp q;obtain⟨m,e,hm⟩:=h.iK z hz';subst e;refine⟨_,List.mem_append_right _ zMc,.inl (Int.le_refl _),?_⟩;have:=lo.1;dsimp only;split <;> omega
theorem Sw.swap {b o:List (Int×Int)}{p:List (List Int)}{l0 l1:Option Int}{sh:List (Int×Int)}(x:Int×Int) (h:Sw b o p l0 l1 sh) (hx:∀ y,r0 y∈p->y.1<=x.1) (hy:∀ y,r1 y∈p->y.1<=x.1):
  Sw b o (p++[r1 x]) l0 (some (xl l1 x.2)) (vZ l0 sh λ m=>(x.1,if xl l1 x.2>m then xl l1 x.2 else m)):=by
 have lo:xl l1 x.2<=x.2/\∀ m,l1=some m->xl l1 x.2<=m:=by
  unfold xl;cases l1 with
  | none=>exact⟨Int.le_refl _,nofun⟩
  | some m=>dsimp only;split <;> refine⟨by omega,λ m' e=>?_⟩ <;> cases e <;> omega
 have la:∃ y,r1 y∈p++[r1 x]/\y.2=xl l1 x.2:=by
  unfold xl;cases l1 with
  | none=>exact⟨x,by simp,rfl⟩
  | some m=>
   dsimp only;split
   .obtain⟨y,h1,h2⟩:=h.gJ m rfl;exact⟨y,by simp[h1],h2⟩
   .exact⟨x,by simp,rfl⟩
 have snd':∀ s∈sh,(∃ x',r0 x'∈p++[r1 x]/\x'.1<=s.1/\x'.2<=s.2)/\∃ x',r1 x'∈p++[r1 x]/\x'.1<=s.1/\x'.2<=s.2:=λ s hs=>by
  obtain⟨⟨a,a1,a2⟩,c,c1,c2⟩:=h.snd s hs;exact⟨⟨a,by simp[a1],a2⟩,c,by simp[c1],c2⟩
 refine⟨λ y hm=>?_,λ y hm=>?_,λ m e=>?_,λ m e=>?_,?_,λ s hs=>?_,λ y z hm hz=>?_⟩
 .rcases uT hm with q | q
  .exact h.iL y q
  .exact (qF q).elim
 .rcases uT hm with q | q
  .obtain⟨m,e,q2⟩:=h.iK y q;exact⟨_,rfl,by have:=lo.2 m e;omega⟩
  .cases ll q;exact⟨_,rfl,lo.1⟩
 .obtain⟨y,q1,q2⟩:=h.gK m e;exact⟨y,by simp[q1],q2⟩
 .cases e;exact la
 .have:=h.len;cases l0 <;> simp[vZ] <;> omega
 .cases l0 with
  | none=>exact snd' s hs
  | some m=>
   rcases List.mem_append.mp hs with q | q
   .exact snd' s q
   .obtain rfl:s=_:=by simpa using q
    obtain⟨y,y1,y2⟩:=la;obtain⟨z,z1,z2⟩:=h.gK m rfl;have hzx:=hx z z1;refine⟨⟨z,by simp[z1],hzx,by dsimp only;split <;> omega⟩,y,y1,?_,by dsimp only;split <;> omega⟩;rcases uT y1 with w | w
    .exact hy y w
    .cases ll w;exact Int.le_refl _
 .have hm':r0 y∈p:=by
   rcases uT hm with q | q
   .exact q
   .exact (qF q).elim
  rcases uT hz with q | q
  .obtain⟨s,s1,s2⟩:=h.all y z hm' q;refine⟨s,?_,s2⟩;cases l0 <;> simp[vZ,s1]
  .cases ll q;obtain⟨m,e,hm⟩:=h.iL y hm';subst e;refine⟨_,List.mem_append_right _ zMc,.inr (Int.le_refl _),?_⟩;have:=lo.1;dsimp only;split <;> omega
structure Lw (d:List (Key×T)) (l0 l1:Option Int):Prop where
 v0:xu d (.inl 0)=l0.map T.int
 v1:xu d (.inl 1)=l1.map T.int
 len:d.length=(if l0.isSome then 1 else 0)+if l1.isSome then 1 else 0
theorem Lw.XO {d:List (Key×T)}{l0 l1:Option Int}(h:Lw d l0 l1) (v:Int):Lw (vY d (.inl 0) (.int v)) (some v) l1:=by
 refine⟨by rw[mK];simp,by rw[mK];simpa using h.v1,?_⟩;rw[cJ,h.v0,h.len];cases l0 <;> cases l1 <;> simp
theorem Lw.XN {d:List (Key×T)}{l0 l1:Option Int}(h:Lw d l0 l1) (v:Int):Lw (vY d (.inl 1) (.int v)) l0 (some v):=by
 refine⟨by rw[mK];simpa using h.v0,by rw[mK];simp,?_⟩;rw[cJ,h.v1,h.len];cases l0 <;> cases l1 <;> simp
end yB
namespace yB
open PySem L2 L3 L5
theorem ka {rows p q:List (List Int)}{x:List Int}(e:L4.xQ rows=p++x::q) {a:List Int}(ha:a∈p) {i j:Int}{as xs:List Int}(h1:a=i::as) (h2:x=j::xs):i<=j:=by
 have h:=L4.jn rows;rw[e,List.pairwise_append] at h;have:=h.2.2 a ha x zMc;subst h1 h2;rw[HT.sP] at this;by_cases c:j=i
 .omega
 .rw[if_neg c] at this;have:=of_decide_eq_false this;omega
theorem QK (b o:List (Int×Int)) (hl:b.length+o.length<64):∃ sh:List (Int×Int),mB [.tup (b.map zr),.tup (o.map zr)]=some (.tup ((w_ sh).map zr))/\sh.length<64/\∀ q,yf sh q=(yf b q&&yf o q):=by
 let a0:W:=.im (.tup (b.map zr))
 let a1:W:=.im (.tup (o.map zr))
 let rows:=b.map r0++o.map r1
 let a2:W:=.im (.lst (rows.map yt))
 have hlen:rows.length<64:=by simp[rows];exact hl
 have hs:qz [.lst (rows.map yt)]=some (.lst ((L4.xQ rows).map yt)):=by
  show ((vX (rows.map yt)).bind λ rs=>_)=_;rw[jR,Option.bind_some,if_pos ⟨hlen,λ r hr=>by
   rcases List.mem_append.mp hr with h | h <;> obtain⟨_,_,rfl⟩:=List.mem_map.mp h <;> simp[r0,r1]⟩]
 have plen:(L4.xQ rows).length=rows.length:=(L4.uN rows).length_eq;obtain⟨ρ1,h1,d,l0,l1,sh,e1,w1,s1⟩:=u5 (is:=[5,6,7]) (g:=vi 3 (xp (zL 5) (xp (zL 6) (xp (zL 7) ud)))) (b:=k8) yt (λ p ρ=>∃ d l0 l1 sh,ρ=[some a0,some a1,some a2,some (.own (.yg d)),some (.own (.lst (sh.map zr))),none,none,none]/\Lw d l0 l1/\Sw b o p l0 l1 sh) (L4.xQ rows) [some a0,some a1,some a2,some (.own (.yg [])),some (.own (.lst [])),none,none,none]
  ⟨[],none,none,[],by simp,⟨rfl,rfl,rfl⟩,⟨nofun,nofun,nofun,nofun,by simp,nofun,nofun⟩⟩ (by
  rintro p x q e ρ ⟨d,l0,l1,sh,rfl,hw,hsw⟩;have hx:x∈rows:=(L4.uN rows).mem_iff.mp (by rw[e];simp);have hpl:p.length<64:=by
   have:=congrArg List.length e;rw[plen] at this;simp at this;omega
  have hsl:sh.length<16777216:=by have:=hsw.len;omega
  have hdl:d.length<16777216:=by rw[hw.len];split <;> split <;> omega
  rcases List.mem_append.mp hx with hm | hm
  .obtain⟨y,_,rfl⟩:=List.mem_map.mp hm;have st:=hsw.YX y (λ z hz=>ka e hz rfl rfl) (λ z hz=>ka e hz rfl rfl);have hw':=hw.XO (xl l0 y.2);refine⟨[some a0,some a1,some a2,some (.own (.yg (vY d (.inl 0) (.int (xl l0 y.2))))),some (.own (.lst ((vZ l1 sh λ m=>(y.1,if m>xl l0 y.2 then m else xl l0 y.2)).map zr))),some (.im (.int y.1)),some (.im (.int 0)),some (.im (.int y.2))],?_,_,_,_,_,(by simp),hw',st⟩;have hr:yt (r0 y)=.tup [.int y.1,.int 0,.int y.2]:=rfl;have v0:=hw'.v0;have v1:=hw'.v1;have ln:=hw'.len;cases l0 <;> cases l1 <;> simp[turn,k8,hr,hw.v0,hdl,hsl,xl,vZ,ym,dep,eqT] at v0 v1 ln ⊢ <;> simp[v0,v1,ln,zr,vZ]
  .obtain⟨y,_,rfl⟩:=List.mem_map.mp hm;have st:=hsw.swap y (λ z hz=>ka e hz rfl rfl) (λ z hz=>ka e hz rfl rfl);have hw':=hw.XN (xl l1 y.2);refine⟨[some a0,some a1,some a2,some (.own (.yg (vY d (.inl 1) (.int (xl l1 y.2))))),some (.own (.lst ((vZ l0 sh λ m=>(y.1,if xl l1 y.2>m then xl l1 y.2 else m)).map zr))),some (.im (.int y.1)),some (.im (.int 1)),some (.im (.int y.2))],?_,_,_,_,_,(by simp),hw',st⟩;have hr:yt (r1 y)=.tup [.int y.1,.int 1,.int y.2]:=rfl;have v0:=hw'.v0;have v1:=hw'.v1;have ln:=hw'.len;cases l0 <;> cases l1 <;> simp[turn,k8,hr,hw.v1,hdl,hsl,xl,vZ,ym,dep,eqT] at v0 v1 ln ⊢ <;> simp[v0,v1,ln,zr,vZ])
 have hsh:sh.length<64:=by have:=s1.len;omega
 refine⟨sh,?_,hsh,λ q=>?_⟩
 .subst e1;have hc1:aJ [some a0,some a1,none,none,none,none,none,none]=some (.lst ((b.map r0).map yt)):=by
   rw[List.map_map];exact rV zr (yt ∘ r0) b (by simp[a0]) (by omega) λ y _=>by simp[zr,yt,r0]
  have hc2:aI [some a0,some a1,none,none,none,none,none,none]=some (.lst ((o.map r1).map yt)):=by
   rw[List.map_map];exact rV zr (yt ∘ r1) o (by simp[a1]) (by omega) λ y _=>by simp[zr,yt,r1]
  have hF:=kP sh hsh;have z:b.length+o.length<=16777216:=by omega
  simp only[a0,a1,a2,rows,List.map_append] at hc1 hc2 hs h1;unfold mB Yg;simp[hc1,hc2,z,hs,h1,hF] at hc1 hc2 hs h1 ⊢;simp[hc1,hc2,z,hs,h1,hF]
 .have m0:∀ x,r0 x∈L4.xQ rows↔x∈b:=λ x=>by
   rw[(L4.uN rows).mem_iff];constructor
   .intro h;rcases List.mem_append.mp h with h | h <;> obtain⟨y,hy,e⟩:=List.mem_map.mp h
    .cases lp e;exact hy
    .exact (qF e.symm).elim
   .exact λ h=>List.mem_append_left _ (List.mem_map_of_mem h)
  have m1:∀ x,r1 x∈L4.xQ rows↔x∈o:=λ x=>by
   rw[(L4.uN rows).mem_iff];constructor
   .intro h;rcases List.mem_append.mp h with h | h <;> obtain⟨y,hy,e⟩:=List.mem_map.mp h
    .exact (qF e).elim
    .cases ll e;exact hy
   .exact λ h=>List.mem_append_right _ (List.mem_map_of_mem h)
  rw[Bool.eq_iff_iff,Bool.and_eq_true,xH,xH,xH];constructor
  .rintro⟨s,hs,g1,g2⟩;obtain⟨⟨x,x1,x2,x3⟩,y,y1,y2,y3⟩:=s1.snd s hs;exact⟨⟨x,(m0 x).mp x1,by omega,by omega⟩,y,(m1 y).mp y1,by omega,by omega⟩
  .rintro⟨⟨x,x1,x2,x3⟩,y,y1,y2,y3⟩;obtain⟨s,s1,g1,g2⟩:=s1.all x y ((m0 x).mpr x1) ((m1 y).mpr y1);exact⟨s,s1,by omega,by omega⟩
end yB
namespace yB
open PySem L2 L3 L5
theorem nK {α:Type}(enc:α->T) (n:Nat) (h:∀ x,dep (enc x)<=n):∀ xs:List α,y7 (xs.map enc)<=n
 | []=>by simp[y7]
 | x::xs=>by
  have:=h x;have:=nK enc n h xs;simp only[List.map_cons,y7];omega
theorem ai (p:Int×Int):dep (zr p)<=1:=by simp[zr,dep,y7]
theorem ah (ps:List (Int×Int)):dep (.tup (ps.map zr))<=60:=by
 have:=nK zr 1 ai ps;simp only[dep];omega
end yB
namespace yB
open PySem L2 L3 L5 RN
noncomputable def bT (b:Bd):T:=.tup (b.map zr)
noncomputable def rT (r:List Bd):T:=.lst (r.map bT)
noncomputable def kt (b:Bool):T:=if b=true then .str "keeper" else .str "taker"
noncomputable def yH (w:Wy):T:=.tup [.int w.f,.int w.t,.int w.a,.int w.b]
noncomputable def v5 (b:Bool):Int:=if b=true then 1 else 0
noncomputable def yN (s:Sl):T:=.tup [.int s.p,.int (v5 s.pu),.int s.gv,.int s.gt]
noncomputable def zA (F:zX):T:=.tup [.tup [.int F.A,.int F.B],.tup (F.os.map kt),.tup (F.ws.map yH),.tup (F.ss.map yN)]
theorem eq_int (i j:Int) (neg:Bool):ym neg (.int i) (.int j)=some (.bl (cond neg (!decide (i=j)) (decide (i=j)))):=by
 simp[ym,dep,eqT];cases neg <;> simp[Bool.beq_eq_decide_eq]
theorem Zo (F:zX):qt [zA F]=some (.int F.os.length):=by
 simp[qt,ZM,zA]
theorem Zq (q p:Int×Int):pU [zr q,zr p]=some (.bl (xW q p)):=by
 by_cases h1:p.1<=q.1 <;> by_cases h2:p.2<=q.2 <;> simp[pU,Yl,zr,xW,h1,h2]
theorem Qh {α:Type}(g:α->Bool) (xs:List α):rb (xs.map λ x=>T.bl (g x))=some (xs.map g):=by
 have:=Qi (xs.map g)
 rwa [List.map_map] at this
theorem Q7 (ps:List (Int×Int)) (q:Int×Int) (hl:ps.length<=10000):m6 [bT ps,zr q]=some (.bl (yf ps q)):=by
 have hc:kx [some (.im (bT ps)),some (.im (zr q))]=some (.lst (ps.map λ p=>T.bl (xW q p))):=by
  unfold kx;refine rV zr _ ps (by simp[bT]) (by omega) λ p _=>?_;simp[Zq]
 unfold m6 Yb;generalize kx=cc at hc ⊢;simp[hc,Qh];rfl
theorem QN (A B:Int) (w:Wy) (bd:Bd) (hl:bd.length<64):mE [.tup [.int A,.int B],yH w,bT bd]=some (bT (me A B w.a w.b bd)):=by
 have h1:ky [some (.im (.tup [.int A,.int B])),some (.im (yH w)),some (.im (bT bd)),none]=some (.lst ((bd.map (xY w.a w.b)).map zr)):=by
  rw[List.map_map];unfold ky;refine rV zr _ bd (by simp[bT]) (by omega) λ p _=>?_;simp[zr,yH,xY,yX,sR]
 have h2:km [some (.im (.tup [.int A,.int B])),some (.im (yH w)),some (.im (bT bd)),some (.im (.lst ((bd.map (xY w.a w.b)).map zr)))]=some (.lst (((bd.map (xY w.a w.b)).filter (vH A B)).map zr)):=by
  have:=lQ zr (λ p=>if vH A B p=true then some (zr p) else none) (pick:=[none,some 0]) (it:=xG (zf 3)) (g:=zL 0) (c:=wb (zB pU (zb (zu 1) (zb (zu 0) zm)))) (f:=zu 0) (ρ:=[some (.im (.tup [.int A,.int B])),some (.im (yH w)),some (.im (bT bd)),some (.im (.lst ((bd.map (xY w.a w.b)).map zr)))]) (bd.map (xY w.a w.b)) (by simp) (by simp;omega) (λ p _=>by
   have e:T.tup [.int A,.int B]=zr (A,B):=rfl;have ga:xW (A,B) p=vH A B p:=rfl;simp only[qU,e];simp[Zq,ga];cases vH A B p <;> simp)
  unfold km;rw[this,show ∀ l:List (Int×Int),l.filterMap (λ p=>if vH A B p=true then some (zr p) else none)=(l.filter (vH A B)).map zr from λ l=>by
   induction l with
   | nil=>rfl
   | cons a l ih=>by_cases h:vH A B a=true <;> simp[List.filterMap_cons,h,ih]]
 have h3:=kP ((bd.map (xY w.a w.b)).filter (vH A B)) (Nat.lt_of_le_of_lt (List.length_filter_le _ _) (by simpa using hl));unfold mE Yk;generalize ky=d1 at h1 ⊢;generalize km=d2 at h2 ⊢;generalize sd=ff at h3 ⊢;generalize (bd.map (xY w.a w.b)).map zr=L1 at h1 h2;generalize (((bd.map (xY w.a w.b)).filter (vH A B)).map zr)=L2 at h2 h3;simp[h1,h2,h3];rfl
theorem QC (b c:Bd) (hl:b.length+c.length<64):m7 [bT b,bT c]=some (bT (um b c)):=QD b c hl
theorem QJ (b c:Bd) (hl:b.length+c.length<64):mB [bT b,bT c]=some (bT (vM b c)):=by
 obtain⟨sh,h1,_,h2⟩:=QK b c hl;have:w_ sh=vM b c:=vv.eq (iU _) (iU _) λ q=>by
  rw[lP,h2,<- aK]
 rw[<- this];exact h1
theorem QB {A B:Int}(hA:0<=A/\A<=12) (bs:List Bd) (h:∀ b∈bs,Gd A B b):mC [.lst (bs.map bT)]=some (bT (tQ bs)):=by
 obtain⟨ρ',h1,h2⟩:=u5 (is:=[2]) (g:=zL 2) (b:=k9) bT (λ p ρ=>ρ=[some (.im (.lst (bs.map bT))),some (.im (bT (p.foldl um []))),none]) bs [some (.im (.lst (bs.map bT))),some (.im (bT [])),none] rfl (by
  rintro p x q e ρ rfl;have g1:Gd A B (p.foldl um []):=kg p [] Gd.nil λ c hc=>h c (by rw[e];simp[hc]);have g2:Gd A B x:=h x (by rw[e];simp);have l1:=g1.rR hA.1;have l2:=g2.rR hA.1;refine⟨[some (.im (.lst (bs.map bT))),some (.im (bT (um (p.foldl um []) x))),some (.im (bT x))],?_,by simp⟩;simp[turn,k9,QC (p.foldl um []) x (by omega)])
 subst h2;unfold mC Yi;generalize k9=bb at h1 ⊢;have e:bT []=.tup []:=rfl;rw[e] at h1;simp[h1,tQ]
theorem QI {A B:Int}(hA:0<=A/\A<=12) (hB:0<=B) (bs:List Bd) (h:∀ b∈bs,Gd A B b):mD [.lst (bs.map bT)]=some (bT (k0 bs)):=by
 obtain⟨ρ',h1,h2⟩:=u5 (is:=[2]) (g:=zL 2) (b:=kA) bT (λ p ρ=>ρ=[some (.im (.lst (bs.map bT))),some (.im (bT (p.foldl vM xZ))),none]) bs [some (.im (.lst (bs.map bT))),some (.im (bT xZ)),none] rfl (by
  rintro p x q e ρ rfl;have g1:Gd A B (p.foldl vM xZ):=gE p xZ (Gd.xZ hA.1 hB) λ c hc=>h c (by rw[e];simp[hc]);have g2:Gd A B x:=h x (by rw[e];simp);have l1:=g1.rR hA.1;have l2:=g2.rR hA.1;refine⟨[some (.im (.lst (bs.map bT))),some (.im (bT (vM (p.foldl vM xZ) x))),some (.im (bT x))],?_,by simp⟩;simp[turn,kA,QJ (p.foldl vM xZ) x (by omega)])
 subst h2;unfold mD Yj;generalize kA=bb at h1 ⊢;have e:bT xZ=.tup [.tup [.int 0,.int 0]]:=rfl;rw[e] at h1;simp[h1,k0]
end yB
namespace yB
open PySem L2 L3 L5 RN
theorem cE {α:Type}{is:List Nat}{g:T->Ev->Option Ev}{b:Sm}(enc ret:α->T) (test:α->Bool) (ρ0:Ev):∀ (xs:List α) (ρ:Ev),yS is ρ=ρ0->
  (∀ x∈xs,∃ ρ',yS is ρ'=ρ0/\turn g b (enc x) ρ0=some (if test x=true then .rt (ret x) else .nx ρ'))->
  wD is g b (xs.map enc) ρ=some (match xs.find? test with | some x=>.rt (ret x) | none=>.nx ρ0)
 | [],ρ,h,_=>by rw[List.map_nil,List.find?_nil,wD,h]
 | x::xs,ρ,h,ht=>by
  rw[List.map_cons,iM,h];obtain⟨ρ',h1,h2⟩:=ht x zMc;rw[h2,List.find?_cons];by_cases c:test x=true
  .rw[if_pos c,c];rfl
  .rw[if_neg c];rw[Bool.not_eq_true] at c;rw[c];exact cE enc ret test ρ0 xs ρ' h1 λ y hy=>ht y (zMo _ hy)
theorem Zn (i a b:Int):mz [.int i,.int a,.int b]=some (.bl (decide (a<=i)&&decide (i<=b))):=by
 have h:kQ [.int i]=some (.bl true):=by simp[kQ,Z_,ue]
 by_cases h1:a<=i <;> by_cases h2:i<=b <;> simp[mz,ZZ,h,h1,h2]
theorem fJ (F:zX) (p:Nat) (h:p<F.os.length):qu [zA F,.int p]=some .zk:=by
 have h1:=Zn p 0 ((F.os.length:Int)-1);rw[show decide ((0:Int)<=p)=true from decide_eq_true (by omega),show decide ((p:Int)<=(F.os.length:Int)-1)=true from decide_eq_true (by omega)] at h1;have h2:=Zo F;unfold qu Ye;generalize zA F=fl at *;simp[h1,h2]
theorem R9 (pu:Bool) (A B:Int) (sp gv gt:Int) (x y:Int) (hg:1<=gv) (b0 b1:T) (hb:zv b0 (.int (v5 pu))=some (.int (if pu=true then B else A))) (hs2:zv b1 (.int 2)=some (.int gv)) (hs3:zv b1 (.int 3)=some (.int gt)) (pr:T):
  ∀ (n m:Nat) (g t:Int) (acc:Bd),(if pu=true then B else A)+1-g<=n->n<m->acc.length+n<=1000->
  ∃ g' t',wC [] (yu (zc rS (zf 5) (zc zv (zf 0) (zf 3)))) qd m [some (.im b0),some (.im b1),some (.im pr),some (.im (.int (v5 pu))),some (.own (.lst (acc.map zr))),some (.im (.int g)),some (.im (.int t))]
   = some (.nx [some (.im b0),some (.im b1),some (.im pr),some (.im (.int (v5 pu))),some (.own (.lst ((acc++wu pu (if pu=true then B else A) gv gt n g t).map zr))),some (.im (.int g')),some (.im (.int t'))]):=by
 have hend:∀ (m:Nat) (g t:Int) (acc:Bd),¬ g<=(if pu=true then B else A)->wC [] (yu (zc rS (zf 5) (zc zv (zf 0) (zf 3)))) qd (m+1) [some (.im b0),some (.im b1),some (.im pr),some (.im (.int (v5 pu))),some (.own (.lst (acc.map zr))),some (.im (.int g)),some (.im (.int t))]
   = some (.nx [some (.im b0),some (.im b1),some (.im pr),some (.im (.int (v5 pu))),some (.own (.lst (acc.map zr))),some (.im (.int g)),some (.im (.int t))]):=λ m g t acc hn=>by
  unfold wC;simp only[zv] at hb;simp[hb,hn]
 intro n
 induction n with
 | zero=>
  intro m g t acc h1 h2 h3;obtain⟨m,rfl⟩:∃ k,m=k+1:=⟨m-1,by omega⟩
  refine⟨g,t,?_⟩;rw[hend m g t acc (by omega)];simp[wu]
 | succ n ih=>
  intro m g t acc h1 h2 h3;obtain⟨m,rfl⟩:∃ k,m=k+1:=⟨m-1,by omega⟩
  by_cases hc:g<=(if pu=true then B else A)
  .obtain⟨g',t',e⟩:=ih m (g+gv) (yX (t-gt)) (acc++[t9 pu g t]) (by omega) (by omega) (by simp;omega);refine⟨g',t',?_⟩;have hb1:qd [some (.im b0),some (.im b1),some (.im pr),some (.im (.int (v5 pu))),some (.own (.lst (acc.map zr))),some (.im (.int g)),some (.im (.int t))]=some (.nx [some (.im b0),some (.im b1),some (.im pr),some (.im (.int (v5 pu))),some (.own (.lst ((acc++[t9 pu g t]).map zr))),some (.im (.int (g+gv))),some (.im (.int (yX (t-gt))))]):=by
    simp only[zv] at hs2 hs3;have hl:acc.length<16777216:=by omega
    unfold qd;cases pu <;> simp[v5,eq_int,hs2,hs3,hl,sR,yX,t9,zr]
   unfold wC;simp only[zv] at hb;generalize qd=bb at *;have e2:wu pu (if pu=true then B else A) gv gt (n+1) g t=t9 pu g t::wu pu (if pu=true then B else A) gv gt n (g+gv) (yX (t-gt)):=by
    rw[wu,if_pos hc]
   rw[e2];simp only[List.append_assoc,List.singleton_append] at e;simp[hb,hc,hb1];simpa using e
  .refine⟨g,t,?_⟩;rw[hend m g t acc hc,wu,if_neg hc,List.append_nil]
theorem QF {F:zX}(ok:F.Ok) (s:Sl) (hs:1<=s.gv/\0<=s.gt) (p:Int×Int) (h0:0<=p.1/\0<=p.2):mv [.tup [.int F.A,.int F.B],yN s,zr p]=some (.lst ((xh F s p).map zr)):=by
 obtain⟨sp,pu,gv,gt⟩:=s;have a1:=ok.a1;have b1:=ok.b1;obtain⟨g',t',h⟩:=R9 pu F.A F.B sp gv gt p.1 p.2 hs.1 (.tup [.int F.A,.int F.B]) (yN ⟨sp,pu,gv,gt⟩) (by cases pu <;> simp[v5]) (by simp[yN]) (by simp[yN]) (zr p) 100 1000000 (vF pu p) (tM pu p) [] (by cases pu <;> simp[vF] <;> omega) (by decide) (by simp);unfold mv ZN pW;generalize hb:qd=bb at h ⊢;unfold xh zX.xi;simp only[List.map_nil,List.nil_append] at h;cases pu <;> simp[yN,v5,zr,vF,tM] at h ⊢ <;> simp[h]
theorem Q1 (F:zX) (p:Nat) (h:p<F.os.length) (hl:F.ss.length<=60):qq [zA F,.int p]=some (match F.stall p with | some s=>yN s | none=>.zk):=by
 have hl':=cE (is:=[2]) (g:=zL 2) (b:=nY) yN yN (λ s=>decide (s.p=p)) [some (.im (zA F)),some (.im (.int p)),none] F.ss [some (.im (zA F)),some (.im (.int p)),none] (by simp) λ s _=>⟨[some (.im (zA F)),some (.im (.int p)),some (.im (yN s))],by simp,by
  by_cases c:s.p=p
  .simp[turn,nY,yN,eq_int,c]
  .have c':¬ ((s.p:Int)=(p:Int)):=by omega
   simp[turn,nY,yN,eq_int,c,c']⟩
 have h1:=fJ F p h;have h2:zv (zA F) (.int 3)=some (.tup (F.ss.map yN)):=by simp[zA]
 unfold qq ZK;generalize nY=bb at *;generalize zA F=fl at *;simp only[zv] at h2;unfold zX.stall;generalize F.ss.find? _=o at *;simp[h1,h2,hl'];cases o <;> simp
theorem bR:∀ (ws:List Wy) (k:Nat),sV k (ws.map yH)=(ws.zipIdx k).map λ wi=>T.tup [.int (wi.2:Int),yH wi.1]
 | [],k=>rfl
 | w::ws,k=>by
  rw[List.map_cons,sV,bR ws (k+1),List.zipIdx_cons,List.map_cons]
theorem kT (f:Wy->Bool):∀ (ws:List Wy) (k:Nat),((ws.zipIdx k).filter λ wi=>f wi.1).map (λ wi=>wi.1)=ws.filter f
 | [],k=>rfl
 | w::ws,k=>by
  rw[List.zipIdx_cons,List.filter_cons,List.filter_cons];by_cases c:f w=true
  .rw[if_pos (by exact c),if_pos c,List.map_cons,kT f ws]
  .rw[if_neg (by exact c),if_neg c,kT f ws]
theorem Qz (F:zX) (p:Nat) (h:p<F.os.length) (hl:F.ws.length<=60):mr [zA F,.int p]=some (.lst (((F.ws.zipIdx).filter λ wi=>decide (wi.1.f=p)).map λ wi=>T.int (wi.2:Int))):=by
 have hc:ko [some (.im (zA F)),some (.im (.int p))]=some (.lst (((F.ws.zipIdx).filter λ wi=>decide (wi.1.f=p)).map λ wi=>T.int (wi.2:Int))):=by
  have:=lQ (λ wi:Wy×Nat=>T.tup [.int (wi.2:Int),yH wi.1]) (λ wi=>if wi.1.f=p then some (T.int (wi.2:Int)) else none) (pick:=[none,none,some 1]) (it:=vD sW (zb (zc zv (zf 0) (cS (.int 2))) zm)) (g:=vi 2 (xp (zL 0) (xp (zL 1) ud))) (c:=yu (zc (ym false) (zc zv (zf 1) (cS (.int 0))) (zf 2))) (f:=zu 0) (ρ:=[some (.im (zA F)),some (.im (.int p))]) (F.ws.zipIdx) (by
   rw[<- bR];simp[zA]) (by simp;omega) (λ wi _=>by
   by_cases c:wi.1.f=p
   .simp[yH,eq_int,c]
   .have c':¬ ((wi.1.f:Int)=(p:Int)):=by omega
    simp[yH,eq_int,c,c'])
  unfold ko;rw[this];congr 2
  induction F.ws.zipIdx with
  | nil=>rfl
  | cons a l ih=>by_cases c:a.1.f=p <;> simp[List.filterMap_cons,c,ih]
 have h1:=fJ F p h;unfold mr ZJ;generalize ko=cc at *;generalize zA F=fl at *;generalize List.map (λ wi:Wy×Nat=>T.int (wi.2:Int)) _=LL at *;simp[h1,hc]
end yB
namespace yB
open PySem L2 L3 L5 RN
theorem bO:∀ (b c:Bd),xR (b.map zr) (c.map zr)=decide (b=c)
 | [],[]=>by simp[xR]
 | [],_::_=>by simp[xR]
 | _::_,[]=>by simp[xR]
 | p::b,q::c=>by
  have h:=bO b c;have e:eqT (zr p) (zr q)=decide (p=q):=by
   obtain⟨p1,p2⟩:=p;obtain⟨q1,q2⟩:=q;by_cases h1:p1=q1 <;> by_cases h2:p2=q2 <;> simp[zr,eqT,xR,h1,h2]
  rw[List.map_cons,List.map_cons,xR,e,h];by_cases h1:p=q <;> by_cases h2:b=c <;> simp[h1,h2]
theorem UL (b c:Bd):ym true (bT b) (bT c)=some (.bl (decide (b≠c))):=by
 have h1:dep (bT b)<=60:=ah b;have h2:dep (bT c)<=60:=ah c;unfold ym;rw[if_pos ⟨h1,h2⟩];show some (T.bl (!(xR (b.map zr) (c.map zr))))=_;rw[bO];by_cases h:b=c <;> simp[h]
theorem oZ (l:List Bd) (p:Nat) (h:p<l.length):zv (rT l) (.int p)=some (bT (l.getD p [])):=by
 show L2.yd (l.map bT) (p:Int)=_;refine uo ?_;rw[List.getElem?_map,List.getElem?_eq_getElem h,List.getD_eq_getElem?_getD,List.getElem?_eq_getElem h];rfl
theorem QE {F:zX}(ok:F.Ok) (p:Nat) (hp:p<F.os.length) (b:Bd) (hb:Gd F.A F.B b):pT [zA F,.int p,bT b]=some (bT (match F.stall p with | none=>b | some s=>nU F s b)):=by
 have h1:=Q1 F p hp ok.s8;cases hs:F.stall p with
 | none=>
  rw[hs] at h1;unfold pT fT;generalize qq=f1 at h1 ⊢;generalize zA F=fl at *;generalize bT b=bb at *;have is1:nc false .zk .zk=some (.bl true):=rfl;simp[h1,is1]
 | some s=>
  rw[hs] at h1;replace h1:qq [zA F,.int p]=some (yN s):=h1;have hmem:s∈F.ss:=List.mem_of_find?_eq_some hs;have hsz:=ok.ss s hmem;have h64:(F.A+1)*(F.B+1)<64:=by
   rcases ok.sl with x | x
   .rw[x] at hmem;cases hmem
   .exact x
  have a0:=ok.a0;have b0:=ok.b0;have hone:∀ x∈b,((xh F s x).length:Int)<=F.xi s.pu+1:=λ x hx=>by
   have q:=hb.vE x hx;have:=aF s.pu (F.xi s.pu) s.gv s.gt hsz.1 100 (vF s.pu x) (tM s.pu x) (by unfold zX.xi vF;split <;> omega);have g0:0<=vF s.pu x:=by unfold vF;split <;> omega
   unfold xh;omega
  have hall:∀ q:Bd,(∀ x∈q,x∈b)->((q.flatMap (xh F s)).length:Int)<=q.length*(F.xi s.pu+1):=λ q=>by
   induction q with
   | nil=>intro _;simp
   | cons x q ih=>
    intro hq;have i1:=ih λ y hy=>hq y (zMo _ hy);have i2:=hone x (hq x zMc);rw[List.flatMap_cons,List.length_append,List.length_cons,Int.natCast_add,Int.natCast_add,Int.add_mul];omega
  have hlen:(b.flatMap (xh F s)).length<64:=by
   have h2:=hall b λ _ h=>h;have l1:=hb.rR a0;have l2:=hb.Ti b0;have:((b.flatMap (xh F s)).length:Int)<64:=by
    refine Int.lt_of_le_of_lt h2 (Int.lt_of_le_of_lt ?_ h64);unfold zX.xi;split
    .exact Int.mul_le_mul_of_nonneg_right l1 (by omega)
    .rw[Int.mul_comm (F.A+1)];exact Int.mul_le_mul_of_nonneg_right l2 (by omega)
   omega
  have hbr:zv (zA F) (.int 0)=some (.tup [.int F.A,.int F.B]):=by simp[zA]
  obtain⟨ρ',h2,h3⟩:=u5 (is:=[5]) (g:=zL 5) (b:=kB) zr (λ q ρ=>ρ=[some (.im (zA F)),some (.im (.int p)),some (.im (bT b)),some (.im (yN s)),some (.own (.lst ((q.flatMap (xh F s)).map zr))),none]) b [some (.im (zA F)),some (.im (.int p)),some (.im (bT b)),some (.im (yN s)),some (.own (.lst [])),none] rfl (by
   rintro q x r e ρ rfl;have hx:x∈b:=by rw[e];simp
   have q1:=hb.vE x hx;have hF:=QF ok s hsz x ⟨q1.1.1,q1.2.1⟩;have hl2:(q.flatMap (xh F s)).length+(xh F s x).length<=16777216:=by
    have e2:(b.flatMap (xh F s)).length=(q.flatMap (xh F s)).length+((xh F s x).length+(r.flatMap (xh F s)).length):=by rw[e];simp
    omega
   refine⟨[some (.im (zA F)),some (.im (.int p)),some (.im (bT b)),some (.im (yN s)),some (.own (.lst (((q++[x]).flatMap (xh F s)).map zr))),some (.im (zr x))],?_,by simp⟩;have e3:((q++[x]).flatMap (xh F s)).map zr=(q.flatMap (xh F s)).map zr++(xh F s x).map zr:=by simp
   rw[e3];unfold turn kB;have l3:((q.flatMap (xh F s)).map zr).length+((xh F s x).map zr).length<=16777216:=by simpa using hl2
   generalize mv=ff at *;generalize (q.flatMap (xh F s)).map zr=L1 at *;generalize (xh F s x).map zr=L2 at *;generalize zA F=fl at *;simp only[zv] at hbr;simp[hbr,hF,l3])
  subst h3;have hF:=kP (b.flatMap (xh F s)) hlen;have nn:nc false (yN s) .zk=some (.bl false):=rfl;unfold pT fT;generalize kB=bb at *;generalize sd=ff at *;generalize qq=f1 at *;generalize (b.flatMap (xh F s)).map zr=L1 at *;have hbT:xS (bT b)=some (b.map zr):=rfl;generalize bT b=bt at *;generalize zA F=fl at *;generalize yN s=st at *;simp[h1,nn,hbT,h2,hF];rfl
theorem Q6 {F:zX}(ok:F.Ok) (p:Nat) (hp:p<F.os.length) (l:List Bd) (hl:l.length=F.os.length) (hg:∀ b∈l,Gd F.A F.B b):mx [zA F,.int p,rT l]=some (bT (xx F l p)):=by
 have h1:=Qz F p hp ok.pX;have hw2:zv (zA F) (.int 2)=some (.tup (F.ws.map yH)):=by simp[zA]
 have hw0:zv (zA F) (.int 0)=some (.tup [.int F.A,.int F.B]):=by simp[zA]
 have hw1:zv (zA F) (.int 1)=some (.tup (F.os.map kt)):=by simp[zA]
 have c1:kr [some (.im (zA F)),some (.im (.int p)),some (.im (rT l)),none,none]=some (.lst ((F.ws.filter λ w=>decide (w.f=p)).map yH)):=by
  rw[<- kT (λ w=>decide (w.f=p)) F.ws 0,List.map_map];unfold kr;refine rV (λ wi:Wy×Nat=>T.int (wi.2:Int)) _ ((F.ws.zipIdx).filter λ wi=>decide (wi.1.f=p)) ?_ (Nat.le_trans (List.length_filter_le _ _) (by rw[List.length_zipIdx];have:=ok.pX;omega)) λ wi hwi=>?_
  .generalize mr=ff at *;simp[h1]
  .have hm:=(List.mem_filter.mp hwi).1;have hg:=List.mem_zipIdx_iff_getElem?.mp hm;have:L2.yd (F.ws.map yH) (wi.2:Int)=some (yH wi.1):=by
    exact uo (by rw[List.getElem?_map,hg];rfl)
   generalize zA F=fl at *;simp only[zv] at hw2;simp[hw2,this]
 have c2:kl [some (.im (zA F)),some (.im (.int p)),some (.im (rT l)),some (.im (.lst ((F.ws.filter λ w=>decide (w.f=p)).map yH))),none]=some (.lst ((vg F l p).map bT)):=by
  unfold vg;rw[List.map_map];unfold kl;refine rV yH _ (F.ws.filter λ w=>decide (w.f=p)) (by simp) (Nat.le_trans (List.length_filter_le _ _) (by have:=ok.pX;omega)) λ w hw=>?_;have hm:=(List.mem_filter.mp hw).1;have ht:w.t<l.length:=by rw[hl];exact (ok.ws w hm).2
  have e1:=oZ l w.t ht;have gb:Gd F.A F.B (l.getD w.t []):=by
   rw[List.getD_eq_getElem?_getD,List.getElem?_eq_getElem ht];exact hg _ (List.getElem_mem ht)
  have l13:=gb.rR ok.a0;have a12:=ok.a1;have hF:=QN F.A F.B w (l.getD w.t []) (by omega);have e2:zv (yH w) (.int 1)=some (.int (w.t:Int)):=by simp[yH]
  obtain⟨bd,hbd⟩:∃ bd,l.getD w.t []=bd:=⟨_,rfl⟩
  rw[hbd] at e1 gb hF;have hbd':(l[w.t]?).getD []=bd:=by rw[<- hbd,List.getD_eq_getElem?_getD]
  generalize mE=ff at *;generalize zA F=fl at *;generalize rT l=rt at *;generalize yH w=wt at *;simp only[zv] at hw0 e1 e2;simp[hw0,e1,e2,hF,hbd']
 have gah:=gN F l p;have c3:=QB ⟨ok.a0,ok.a1⟩ (vg F l p) gah;have c4:=QI ⟨ok.a0,ok.a1⟩ ok.b0 (vg F l p) gah;have c5:=QE ok p hp (tQ (vg F l p)) (kg _ _ Gd.nil gah);have ho:L2.yd (F.os.map kt) (p:Int)=some (kt (F.os.getD p false)):=by
  refine uo ?_;rw[List.getElem?_map,List.getElem?_eq_getElem hp,List.getD_eq_getElem?_getD,List.getElem?_eq_getElem hp];rfl
 have hk:∀ b:Bool,ym false (kt b) (.str "keeper")=some (.bl b):=λ b=>by cases b <;> rfl
 unfold mx ZQ;generalize kr=d1 at *;generalize kl=d2 at *;generalize mC=f1 at *;generalize mD=f2 at *;generalize pT=f3 at *;generalize ((F.ws.filter λ w=>decide (w.f=p)).map yH)=L1 at *;generalize zA F=fl at *;generalize rT l=rt at *;unfold xx;have hk':=hk (F.os.getD p false);generalize F.os.getD p false=kb at *;generalize kt kb=ktb at *;generalize (T.str "keeper")=ks at *;simp only[zv] at hw1;cases kb with
 | true=>
  simp[c1,c2,hw1,ho,hk',c3,c5]
  all_goals (cases F.stall p <;> rfl)
 | false=>simp[c1,c2,hw1,ho,hk',c4]
end yB
namespace yB
open PySem L2 L3 L5 RN
theorem gm {α β:Type}(c:α->Bool) (g:α->β):∀ l:List α,l.filterMap (λ x=>if c x=true then some (g x) else none)=(l.filter c).map g
 | []=>rfl
 | a::l=>by by_cases h:c a=true <;> simp[List.filterMap_cons,h,gm c g l]
theorem T_ (t:Nat) (fr:List Nat):qX false (.int t) (.lst (fr.map λ(k:Nat)=>T.int (k:Int)))=some (.bl (fr.contains t)):=by
 have d1:y7 (fr.map λ(k:Nat)=>T.int (k:Int))<=60:=by
  refine nK _ 60 (λ x=>?_) fr;simp[dep]
 have d0:dep (.int (t:Int))<=60:=by simp[dep]
 unfold qX;show (if dep (.int (t:Int))<=60/\y7 (fr.map λ(k:Nat)=>T.int (k:Int))<=60 then _ else _)=_;rw[if_pos ⟨d0,d1⟩];show some (T.bl ((fr.map λ(k:Nat)=>T.int (k:Int)).any λ x=>eqT x (.int t)))=_;congr 2;rw[Bool.eq_iff_iff,List.any_eq_true,List.contains_iff_mem];constructor
 .rintro⟨x,hx,h⟩;obtain⟨k,hk,rfl⟩:=List.mem_map.mp hx;have:(k:Int)=(t:Int):=by simpa [eqT] using h
  have:k=t:=by omega
  subst this;exact hk
 .intro h;exact⟨_,List.mem_map.mpr ⟨t,h,rfl⟩,by simp[eqT]⟩
theorem Q5 {F:zX}(ok:F.Ok) (last:List Bd) (fr:List Nat) (hl:last.length=F.os.length) (hg:∀ b∈last,Gd F.A F.B b):
  pK [zA F,rT last,.lst (fr.map λ(k:Nat)=>T.int (k:Int))]=some (rT (yk F last fr)):=by
 have hw2:zv (zA F) (.int 2)=some (.tup (F.ws.map yH)):=by simp[zA]
 have c1:kq [some (.im (zA F)),some (.im (rT last)),some (.im (.lst (fr.map λ(k:Nat)=>T.int (k:Int)))),some (.own (.lst (last.map bT))),none]=some (.lst (((F.ws.filter λ w=>fr.contains w.t).map λ w=>(w.f:Int)).map T.int)):=by
  have:=lQ yH (λ w=>if fr.contains w.t=true then some (T.int (w.f:Int)) else none) (pick:=[none,some 2]) (it:=xG (zc zv (zf 0) (cS (.int 2)))) (g:=zL 0) (c:=yu (zc (qX false) (zc zv (zf 0) (cS (.int 1))) (zf 1))) (f:=zc zv (zf 0) (cS (.int 0))) (ρ:=[some (.im (zA F)),some (.im (rT last)),some (.im (.lst (fr.map λ(k:Nat)=>T.int (k:Int)))),some (.own (.lst (last.map bT))),none]) F.ws (by
    generalize zA F=fl at *;simp only[zv] at hw2;simp[hw2]) (by have:=ok.pX;omega) (λ w _=>by
   have hi:=T_ w.t fr;generalize (T.lst (fr.map λ(k:Nat)=>T.int (k:Int)))=ft at *;generalize fr.contains w.t=cb at *;cases cb <;> simp[yH,hi])
  unfold kq;rw[this];rw[gm (λ w:Wy=>fr.contains w.t) (λ w:Wy=>T.int (w.f:Int)),List.map_map];rfl
 have hss:r9 [.lst (((F.ws.filter λ w=>fr.contains w.t).map λ w=>(w.f:Int)).map T.int)]=some (.lst ((wG ((F.ws.filter λ w=>fr.contains w.t).map λ w=>(w.f:Int))).map T.int)):=by
  show (match uf (((F.ws.filter λ w=>fr.contains w.t).map λ w=>(w.f:Int)).map T.int) with | some ns=>_ | none=>_)=_;rw[bo];refine if_pos ?_;have:=List.length_filter_le (λ w:Wy=>fr.contains w.t) F.ws;have:=ok.pX;simp only[List.length_map];omega
 have hmem:∀ k∈wG ((F.ws.filter λ w=>fr.contains w.t).map λ w=>(w.f:Int)),∃ p:Nat,k=(p:Int)/\p<F.os.length/\u7 F fr p=true:=λ k hk=>by
  obtain⟨w,hw,rfl⟩:=List.mem_map.mp (lK.mp hk);obtain⟨w1,w2⟩:=List.mem_filter.mp hw;exact⟨w.f,rfl,(ok.ws w w1).1,List.any_eq_true.mpr ⟨w,w1,by simpa using w2⟩⟩
 have hway:∀ p:Nat,u7 F fr p=true->(p:Int)∈wG ((F.ws.filter λ w=>fr.contains w.t).map λ w=>(w.f:Int)):=λ p h=>by
  obtain⟨w,w1,w2⟩:=List.any_eq_true.mp h;have w3:w.f=p/\fr.contains w.t=true:=by simpa using w2
  exact lK.mpr (List.mem_map.mpr ⟨w,List.mem_filter.mpr ⟨w1,w3.2⟩,by rw[w3.1]⟩)
 generalize wG ((F.ws.filter λ w=>fr.contains w.t).map λ w=>(w.f:Int))=up at *;have ft:∃ t,(T.lst (fr.map λ(k:Nat)=>T.int (k:Int)))=t:=⟨_,rfl⟩
 obtain⟨ρ',h1,h2⟩:=u5 (is:=[4]) (g:=zL 4) (b:=k6) T.int (λ pre ρ=>ρ=[some (.im (zA F)),some (.im (rT last)),some (.im (.lst (fr.map λ(k:Nat)=>T.int (k:Int)))),some (.own (.lst (((List.range last.length).map λ(p:Nat)=>if (p:Int)∈pre then xx F last p else last.getD p []).map bT))),none]) up
   [some (.im (zA F)),some (.im (rT last)),some (.im (.lst (fr.map λ(k:Nat)=>T.int (k:Int)))),some (.own (.lst (last.map bT))),none] (by
  have e:(List.range last.length).map (λ(p:Nat)=>if (p:Int)∈([]:List Int) then xx F last p else last.getD p [])=last:=by
   refine List.ext_getElem (by simp) λ i h1 h2=>?_;simp[h2]
  rw[e];rfl) (by
  rintro pre k q e ρ rfl;obtain⟨p,rfl,hp,hw⟩:=hmem k (by rw[e];simp);have hF:=Q6 ok p hp last hl hg;refine⟨[some (.im (zA F)),some (.im (rT last)),some (.im (.lst (fr.map λ(k:Nat)=>T.int (k:Int)))),some (.own (.lst (((List.range last.length).map λ(i:Nat)=>if (i:Int)∈pre++[(p:Int)] then xx F last i else last.getD i []).map bT))),some (.im (.int p))],?_,by simp⟩;have hset:(((List.range last.length).map λ(i:Nat)=>if (i:Int)∈pre then xx F last i else last.getD i []).map bT).set p (bT (xx F last p))=((List.range last.length).map λ(i:Nat)=>if (i:Int)∈pre++[(p:Int)] then xx F last i else last.getD i []).map bT:=by
   refine List.ext_getElem (by simp) λ i h1 h2=>?_;rw[List.getElem_set];simp only[List.getElem_map,List.getElem_range,List.mem_append,List.mem_singleton];by_cases c:p=i
   .subst c;simp
   .have c':¬ ((i:Int)=(p:Int)):=by omega
    simp[c,c']
  have hix:va (((List.range last.length).map λ(i:Nat)=>if (i:Int)∈pre then xx F last i else last.getD i []).map bT).length (p:Int)=some p:=by
   unfold va;simp only[List.length_map,List.length_range];rw[if_pos (by omega),if_pos (by omega),Int.toNat_natCast]
  rw[<- hset];unfold turn k6;generalize mx=ff at *;generalize (((List.range last.length).map λ(i:Nat)=>if (i:Int)∈pre then xx F last i else last.getD i []).map bT)=LL at *;generalize zA F=fl at *;generalize rT last=rl at *;generalize (T.lst (fr.map λ(k:Nat)=>T.int (k:Int)))=ftt at *;simp[hF,hix])
 subst h2;have fin:((List.range last.length).map λ(p:Nat)=>if (p:Int)∈up then xx F last p else last.getD p [])=yk F last fr:=by
  unfold yk;refine List.map_congr_left λ p hp=>?_;by_cases c:u7 F fr p=true
  .rw[if_pos c,if_pos (hway p c)]
  .rw[if_neg c,if_neg λ h=>c (by obtain⟨p',e,_,h'⟩:=hmem _ h;exact (show p'=p by omega)▸h')]
 rw[fin] at h1;have hlist:listS [rT last]=some (.lst (last.map bT)):=rfl;unfold pK ZO;generalize kq=cc at *;generalize k6=bb at *;generalize (((F.ws.filter λ w=>fr.contains w.t).map λ w=>(w.f:Int)).map T.int)=L1 at *;generalize hup:up.map T.int=L2 at *;generalize last.map bT=L3 at *;generalize zA F=fl at *;have hsq:xS (rT last)=some L3:=by simpa using hlist
 generalize rT last=rl at *;generalize (T.lst (fr.map λ(k:Nat)=>T.int (k:Int)))=ftt at *;simp[hsq,c1,hss,h1,rT]
end yB
namespace yB
open PySem L2 L3 L5 RN
theorem bS {α:Type}(enc:α->T) (d:α) (fo:List α):∀ (l:List α) (k:Nat),(∀ i,l.getD i d=fo.getD (k+i) d)->sV k (l.map enc)=(List.range l.length).map λ(p:Nat)=>T.tup [.int ((k+p:Nat):Int),enc (fo.getD (k+p) d)]
 | [],k,_=>rfl
 | b::l,k,h=>by
  have h0:=h 0;rw[List.map_cons,sV,bS enc d fo l (k+1) λ i=>by have:=h (i+1);rw[show k+1+i=k+(i+1) from by omega];simpa using this];rw[List.length_cons,List.range_succ_eq_map,List.map_cons,List.map_map];have e:b=fo.getD k d:=by simpa using h0
  congr 1
  .rw[e];rfl
  .refine List.map_congr_left λ p _=>?_;simp only[Function.comp];rw[show k+1+p=k+Nat.succ p from by omega]
noncomputable def x8 (fr:List Nat):T:=.lst (fr.map λ(k:Nat)=>T.int (k:Int))
theorem Qc (a:T) (b c:Option L5.W) (last fo:List Bd) (hl:fo.length=last.length) (h16:fo.length<=10000):nX [some (.im a),b,c,some (.im (rT last)),some (.im (rT fo))]=some (x8 (xX last fo)):=by
 have:=lQ (λ p:Nat=>T.tup [.int (p:Int),bT (fo.getD p [])]) (λ p=>if decide (fo.getD p []≠last.getD p [])=true then some (T.int (p:Int)) else none) (pick:=[none,none,some 3]) (it:=vD sW (zb (zf 4) zm)) (g:=vi 2 (xp (zL 0) (xp (zL 1) ud))) (c:=yu (zc (ym true) (zf 1) (zc zv (zf 2) (zf 0)))) (f:=zu 0) (ρ:=[some (.im a),b,c,some (.im (rT last)),some (.im (rT fo))]) (List.range fo.length) (by
   have:=bS bT [] fo fo 0 λ i=>by rw[Nat.zero_add]
   simp only[Nat.zero_add] at this;have e:sW [rT fo]=some (sV 0 (fo.map bT)):=rfl;rw[<- this];generalize sW=en at *;simp[e]) (by simp;omega) (λ p hp=>by
  have hp':p<last.length:=by rw[<- hl];exact List.mem_range.mp hp
  have h1:=oZ last p hp';have h2:=UL (fo.getD p []) (last.getD p []);generalize fo.getD p []=x at *;generalize last.getD p []=y at *;generalize rT last=rl at *;generalize decide (x≠y)=d at *;simp only[zv] at h1;cases d <;> simp[h1,h2])
 unfold nX;rw[this,gm (λ p:Nat=>decide (fo.getD p []≠last.getD p [])) (λ p:Nat=>T.int (p:Int))];rfl
theorem eZ {F:zX}(ok:F.Ok):∀ (n:Nat) (pre:List (List Bd)) (last:List Bd) (fr:List Nat) (res:List (List Bd)),St F last fr->ot F n pre last fr=some res->pre.length+n<=10000->∀ (m:Nat),n<m->∀ x3 x4:Option L5.W,
  ∃ fr',wC [3,4] (wb (zf 2)) tm m [some (.im (zA F)),some (.own (.lst ((pre++[last]).map rT))),some (.im (x8 fr)),x3,x4]=some (.nx [some (.im (zA F)),some (.own (.lst (res.map rT))),some (.im fr'),none,none])
 | 0,_,_,_,_,_,h,_,_,_,_,_=>by cases h
 | n+1,pre,last,fr,res,s,h,hn,m,hm,x3,x4=>by
  have hend:∀ (m:Nat) (told:List (List Bd)) (x3 x4:Option L5.W),wC [3,4] (wb (zf 2)) tm (m+1) [some (.im (zA F)),some (.own (.lst (told.map rT))),some (.im (x8 [])),x3,x4]=some (.nx [some (.im (zA F)),some (.own (.lst (told.map rT))),some (.im (x8 [])),none,none]):=λ m told x3 x4=>by
   unfold wC;simp[x8]
  obtain⟨m,rfl⟩:∃ k,m=k+1:=⟨m-1,by omega⟩
  unfold ot at h;by_cases hfr:fr=[]
  .rw[if_pos hfr] at h;cases h;subst hfr;exact⟨_,hend m _ x3 x4⟩
  .rw[if_neg hfr] at h;dsimp only at h;have hlen:=s.len;have n8:=ok.n8;have hF:=Q5 ok last fr s.len s.gd;have hlast:zv (.lst ((pre++[last]).map rT)) (.int (-1))=some (rT last):=by
    show L2.yd ((pre++[last]).map rT) (-1)=_;rw[List.map_append];exact kC _ _
   have hc:=λ b c=>Qc (zA F) b c last (yk F last fr) (rN ..) (by rw[rN,s.len];omega);have hne:sA (x8 fr)=some true:=by
    cases fr with
    | nil=>exact absurd rfl hfr
    | cons a l=>rfl
   have hb:∃ told',tm [some (.im (zA F)),some (.own (.lst ((pre++[last]).map rT))),some (.im (x8 fr)),none,none]=some (.nx [some (.im (zA F)),some (.own (.lst (told'.map rT))),some (.im (x8 (xX last (yk F last fr)))),some (.im (rT last)),some (.im (rT (yk F last fr)))])/\told'=if xX last (yk F last fr)=[] then pre++[last] else pre++[last]++[yk F last fr]:=by
    have hl2:((pre++[last]).map rT).length<16777216:=by simp;omega
    by_cases hf:xX last (yk F last fr)=[]
    .refine⟨pre++[last],?_,by rw[if_pos hf]⟩;have ht:sA (x8 (xX last (yk F last fr)))=some false:=by rw[hf];rfl
     unfold tm;generalize nX=cc at *;generalize pK=ff at *;generalize (pre++[last]).map rT=L1 at *;generalize x8 (xX last (yk F last fr))=f2 at *;unfold x8 at *;simp only[zv] at hlast;generalize (T.lst (fr.map λ(k:Nat)=>T.int (k:Int)))=f1 at *;generalize rT (yk F last fr)=r2 at *;generalize rT last=r1 at *;simp only[xS] at hlast;simp[-sA,hlast,hF,hc,ht]
    .refine⟨pre++[last]++[yk F last fr],?_,by rw[if_neg hf]⟩;have ht:sA (x8 (xX last (yk F last fr)))=some true:=by
      cases e:xX last (yk F last fr) with
      | nil=>exact absurd e hf
      | cons a l=>rfl
     have e2:(pre++[last]++[yk F last fr]).map rT=(pre++[last]).map rT++[rT (yk F last fr)]:=by simp
     rw[e2];unfold tm;generalize nX=cc at *;generalize pK=ff at *;generalize (pre++[last]).map rT=L1 at *;generalize x8 (xX last (yk F last fr))=f2 at *;unfold x8 at *;simp only[zv] at hlast;generalize (T.lst (fr.map λ(k:Nat)=>T.int (k:Int)))=f1 at *;generalize rT (yk F last fr)=r2 at *;generalize rT last=r1 at *;simp only[xS] at hlast;simp[-sA,hlast,hF,hc,ht,hl2]
   obtain⟨told',hb1,hb2⟩:=hb;have key:∀ R,wC [3,4] (wb (zf 2)) tm m [some (.im (zA F)),some (.own (.lst (told'.map rT))),some (.im (x8 (xX last (yk F last fr)))),some (.im (rT last)),some (.im (rT (yk F last fr)))]=R->wC [3,4] (wb (zf 2)) tm (m+1) [some (.im (zA F)),some (.own (.lst ((pre++[last]).map rT))),some (.im (x8 fr)),x3,x4]=R:=λ R e=>by
    rw[wC];generalize hbb:tm=bb at *;generalize hlw:wC [3,4] (wb (zf 2)) bb m=lw at *;have hf:yS [3,4] [some (.im (zA F)),some (.own (.lst ((pre++[last]).map rT))),some (.im (x8 fr)),x3,x4]=[some (.im (zA F)),some (.own (.lst ((pre++[last]).map rT))),some (.im (x8 fr)),none,none]:=rfl;rw[hf];have ht:wb (zf 2) [some (.im (zA F)),some (.own (.lst ((pre++[last]).map rT))),some (.im (x8 fr)),none,none]=some true:=by
     generalize x8 fr=f1 at *;simp[-sA,hne]
    rw[ht,Option.bind_some,if_pos rfl,hb1,Option.bind_some];exact e
   by_cases hf:xX last (yk F last fr)=[]
   .rw[if_pos hf] at h hb2;cases h;subst hb2;rw[hf] at key;obtain⟨m,rfl⟩:∃ k,m=k+1:=⟨m-1,by omega⟩
    exact⟨_,key _ (hend m _ _ _)⟩
   .rw[if_neg hf] at h hb2;subst hb2;obtain⟨fr',e⟩:=eZ ok n (pre++[last]) (yk F last fr) (xX last (yk F last fr)) res (s.next ok) h (by simp;omega) m (by omega) (some (.im (rT last))) (some (.im (rT (yk F last fr))));exact⟨fr',key _ e⟩
theorem Q3 {F:zX}(ok:F.Ok):∃ more,rh [zA F]=some (.lst ((RN.start F::more).map rT))/\(∀ r∈RN.start F::more,r.length=F.os.length/\∀ b∈r,Gd F.A F.B b)/\more.length<=2000:=by
 have hmu:=c9 (RN.start F);have hsl:(RN.start F).length=F.os.length:=by unfold RN.start;simp
 have n8:=ok.n8;have n1:=ok.n1;obtain⟨more,last',e1,e2,_,e4⟩:=e_ ok 2000 [] (RN.start F) (List.range F.os.length) (St.start ok) (by omega);obtain⟨fr',e⟩:=eZ ok 2000 [] (RN.start F) (List.range F.os.length) _ (St.start ok) e1 (by simp) 1000000 (by decide) none none;refine⟨more,?_,e2,by omega⟩;have hp:=Zo F;have hst:rT (RN.start F)=.lst (List.replicate F.os.length (.tup [.tup [.int 0,.int 0]])):=by
  unfold rT RN.start;rw[List.map_replicate];rfl
 have hmul:wg (.lst [.tup [.tup [.int 0,.int 0]]]) (.int F.os.length)=some (rT (RN.start F)):=by
  rw[hst];unfold wg;dsimp only;rw[if_pos ⟨by simp,by omega,by omega,Te (by simp;omega)⟩];have:∀ n:Nat,(List.replicate n [T.tup [.tup [.int 0,.int 0]]]).flatten=List.replicate n (.tup [.tup [.int 0,.int 0]]):=λ n=>by
   induction n with
   | zero=>rfl
   | succ n ih=>rw[List.replicate_succ,List.replicate_succ,List.flatten_cons,ih];rfl
  rw[Int.toNat_natCast,this]
 have hrg:oX [.int F.os.length]=some (x8 (List.range F.os.length)):=by
  show (if 0<=(F.os.length:Int)/\(F.os.length:Int)<=16777216 then some (T.lst (rangeT 0 (F.os.length:Int).toNat)) else none)=_;rw[if_pos ⟨by omega,by omega⟩];show some (T.lst ((List.range (F.os.length:Int).toNat).map λ(k:Nat)=>T.int (0+(k:Int))))=_;rw[Int.toNat_natCast];unfold x8;simp
 unfold rh ZL pW;generalize tm=bb at *;generalize qt=ff at *;generalize oX=lr at *;simp only[List.nil_append,List.map_cons,List.map_nil] at e;generalize x8 (List.range F.os.length)=f1 at *;rw[List.map_cons];generalize rT (RN.start F)=r0 at *;generalize zA F=fl at *;generalize hlw:wC [3,4] (wb (zf 2)) bb 1000000=lw at *;generalize wg=mw at *;simp[hp,hmul,hrg,e]
end yB
namespace yB
open PySem L2 L3 L5 RN
theorem c8 (i j:Int):wg (.int i) (.int j)=if wz i j then some (.int (i*j)) else none:=rfl
theorem TY {r:List Int}{rs:List (List Int)}:uf ((r::rs).map yt)=none:=rfl
theorem Y_ (rs:List (List Int)) (h0:rs≠[]) (hl:rs.length<64) (hn:∀ r∈rs,r≠[]):r9 [.lst (rs.map yt)]=some (.lst ((L4.xQ (wB rs)).map yt)):=by
 cases rs with
 | nil=>exact absurd rfl h0
 | cons r rs=>
  show (match uf ((r::rs).map yt) with
   | some ns=>if ns.length<64 then some (T.lst ((wG ns).map T.int)) else none
   | none=>mU [T.lst ((r::rs).map yt)])=_
  rw[TY];show (vX ((r::rs).map yt)).bind _=_;rw[jR,Option.bind_some,if_pos ⟨hl,hn⟩]
theorem nV (ns:List Int) (k:Nat):0<=cell ns k:=by
 unfold cell;split
 .exact Int.emod_nonneg _ (by decide)
 .exact Int.le_refl _
theorem o4 {L:List T}{P:Int->Prop}(hP:∀ y∈L,∃ v,y=.int v/\P v) {i:Int}(h0:0<=i) (h1:i<L.length):∃ v,L2.yd L i=some (.int v)/\P v:=by
 have hl:i.toNat<L.length:=by omega
 have e:L2.yd L i=some L[i.toNat]:=by
  have:=uo (k:=i.toNat) (List.getElem?_eq_getElem hl);rw[Int.toNat_of_nonneg h0] at this;exact this
 obtain⟨v,e2,hv⟩:=hP _ (List.getElem_mem hl);exact⟨v,by rw[e,e2],hv⟩
theorem Zp (x:Int):∃ y,se [.int x]=some (.int y):=by
 have d5:xt x 5:=⟨by decide,by decide⟩
 by_cases h:x%5=1
 .exact⟨_,by simp[se,fR,eq_int,h,d5];rfl⟩
 .exact⟨_,by simp[se,fR,eq_int,h,d5];rfl⟩
theorem Q4 (ns:List Int) (many:Nat) (hm:many<=8):∃ os:List Bool,pN [zP ns,.int many]=some (.tup (os.map kt))/\os.length=many:=by
 have hc:=sf ns 2;generalize cell ns 2=num at *;obtain⟨ρ',h1,c,os,h2,h3⟩:=u5 (is:=[4]) (g:=zL 4) (b:=k7) (λ k:Nat=>T.int (0+(k:Int))) (λ p ρ=>∃ (c:Int) (os:List Bool),ρ=[some (.im (zP ns)),some (.im (.int many)),some (.im (.int c)),some (.own (.lst (os.map kt))),none]/\os.length=p.length)
   (List.range many) [some (.im (zP ns)),some (.im (.int many)),some (.im (.int num)),some (.own (.lst [])),none] ⟨num,[],rfl,rfl⟩ (by
  rintro p k q e ρ ⟨c,os,rfl,r1⟩;have hp:p.length<many:=by have:=congrArg List.length e;simp at this;omega
  have hl:(os.map kt).length<16777216:=by simp;omega
  have d2:xt c 2:=⟨by decide,by decide⟩
  have pk:∃ b:Bool,L2.yd [T.str "keeper",T.str "taker"] (c%2)=some (kt b):=by
   rcases Int.emod_two_eq c with h | h <;> rw[h]
   .exact⟨true,rfl⟩
   .exact⟨false,rfl⟩
  obtain⟨b,hb⟩:=pk;refine⟨[some (.im (zP ns)),some (.im (.int many)),some (.im (.int (c/2))),some (.own (.lst ((os++[b]).map kt))),some (.im (.int (0+(k:Int))))],?_,c/2,os++[b],by simp,by simp[r1]⟩;have e2:(os++[b]).map kt=os.map kt++[kt b]:=by simp
  rw[e2];unfold turn k7;generalize (T.str "keeper")=s1 at *;generalize (T.str "taker")=s2 at *;generalize kt b=kb at *;generalize os.map kt=L at *;generalize (0+(k:Int))=kk at *;simp[hb,hl,d2])
 subst h2;have hr:=ou many (by omega);refine⟨os,?_,by simpa using h3⟩;unfold pN ZU;generalize k7=bb at *;generalize os.map kt=L at *;generalize (List.range many).map (λ(k:Nat)=>T.int (0+(k:Int)))=R at *;have hc':yC [zP ns,.int 2]=some (.int num):=hc;generalize yC=fc at *;generalize zP ns=sc at *;simp[hc',hr,h1]
def mI (A B:Int):Prop:=(0<=A/\A<=12)/\(0<=B/\B<=12)/\((A=12/\B=12)\/(A+1)*(B+1)<64)
theorem mI.small {A B:Int}(h:0<=A/\A<=5) (h':0<=B/\B<=5):mI A B:=by
 refine⟨⟨h.1,by omega⟩,⟨h'.1,by omega⟩,.inr ?_⟩;have:(A+1)*(B+1)<=6*6:=Int.mul_le_mul (by omega) (by omega) (by omega) (by decide);omega
theorem QH (ns:List Int) (many:Nat):∃ A B:Int,pP [zP ns,.int many]=some (.tup [.int A,.int B])/\mI A B:=by
 have hc:=sf ns 1;have c0:=nV ns 1;generalize cell ns 1=num at *;have hc':yC [zP ns,.int 1]=some (.int num):=hc;have d8:xt num 8:=⟨by decide,by decide⟩
 have d64:xt num 64:=⟨by decide,by decide⟩
 obtain⟨x,hx,x0,x5⟩:=o4 (L:=[T.int 3,.int 2,.int 4,.int 1,.int 5,.int 2,.int 3,.int 0]) (P:=λ v=>0<=v/\v<=5) (by intro y hy;simp only[List.mem_cons,List.mem_nil_iff,or_false] at hy;rcases hy with rfl | rfl | rfl | rfl | rfl | rfl | rfl | rfl <;> exact⟨_,rfl,by decide,by decide⟩) (i:=num%8) (by omega) (by simp;omega);obtain⟨y,hy,y0,y5⟩:=o4 (L:=[T.int 2,.int 3,.int 1,.int 4,.int 2,.int 5,.int 3,.int 0]) (P:=λ v=>0<=v/\v<=5) (by intro y hy;simp only[List.mem_cons,List.mem_nil_iff,or_false] at hy;rcases hy with rfl | rfl | rfl | rfl | rfl | rfl | rfl | rfl <;> exact⟨_,rfl,by decide,by decide⟩) (i:=num/8%8) (by omega) (by simp;omega);have mn:∀ v:Int,0<=v->0<=(if 2<v then 2 else v)/\(if 2<v then 2 else v)<=5:=λ v hv=>by split <;> omega
 unfold pP ZX;generalize yC=fc at *;generalize zP ns=sc at *;by_cases h1:many>4
 .refine⟨_,_,?_,mI.small (mn x x0) (mn y y0)⟩;have h1':(4:Int)<many:=by omega
  simp[hc',hx,hy,d8,h1',sR]
 .have h1':¬ (4:Int)<many:=by omega
  by_cases h2:num/64%10=1
  .refine⟨12,y%3,?_,⟨⟨by decide,by decide⟩,⟨by omega,by omega⟩,.inr (by omega)⟩⟩;simp[hc',hx,hy,d8,h1',d64,eq_int,h2]
  .by_cases h3:num/64%10=2
   .refine⟨x%3,12,?_,⟨⟨by omega,by omega⟩,⟨by decide,by decide⟩,.inr (by omega)⟩⟩;simp[hc',hx,hy,d8,h1',d64,eq_int,h3]
   .by_cases h4:num/64%10=3/\many<3
    .refine⟨12,12,?_,⟨⟨by decide,by decide⟩,⟨by decide,by decide⟩,.inl ⟨rfl,rfl⟩⟩⟩;have h5:(many:Int)<3:=by omega
     simp[hc',hx,hy,d8,h1',d64,eq_int,h4.1,h5,wj]
    .refine⟨x,y,?_,mI.small ⟨x0,x5⟩ ⟨y0,y5⟩⟩;by_cases h6:num/64%10=3
     .have h5:¬ (many:Int)<3:=by omega
      simp[hc',hx,hy,d8,h1',d64,eq_int,h6,h5,wj]
     .simp[hc',hx,hy,d8,h1',d64,eq_int,h2,h3,h6]
end yB
namespace yB
open PySem L2 L3 L5 RN
theorem seq_eq {a b:Sm}{ρ ρ':Ev}(h:a ρ=some (.nx ρ')):zx a b ρ=b ρ':=by
 show (a ρ).bind _=_;rw[h];rfl
theorem rJ {f:T->T->Option T}{fa fb:Ev->Option T}{ρ:Ev}{x y:T}{r:Option T}(h1:fa ρ=some x) (h2:fb ρ=some y) (h:f x y=r):zc f fa fb ρ=r:=by
 show (fa ρ).bind _=r;rw[h1];show (fb ρ).bind _=r;rw[h2];exact h
theorem aW {i:Nat}{f:Ev->Option T}{ρ:Ev}{y:T}(h:f ρ=some y):zS i f ρ=some (.nx (ρ.set i (some (.im y)))):=by
 show (f ρ).map _=_;rw[h];rfl
theorem iE {i j:Int}(h:wz i j):wg (.int i) (.int j)=some (.int (i*j)):=by rw[c8,if_pos h]
def qy (many:Nat) (r:List Int):Prop:=∃ (f t:Nat) (a b:Int),r=[(f:Int),(t:Int),a,b]/\f<many/\t<many
theorem Yo (M C:Int) (hM:0<M) (hC:∀ i,wz i C) (bb:Sm) (hbb:bb=(zx (zS 8 (zc y_ (zc wg (zf 3) (zf 5)) (zf 7)))
 (zx (zS 9 (zc z_ (zc y_ (zc y_ (zc wg (zB yC (zb (zu 0) (zb (zc y_ (cS (.int 4)) (zf 8)) zm))) (cS (.int C))) (zc wg (cS (.int 61)) (zf 8))) (cS (.int 17))) (cS (.int M))))
 (zx (zS 10 (zc yG (zf 9) (cS (.int 8))))
 (uq 4 (tupS (zb (zu 5) (zb (zc z_ (zc z_ (zf 9) (cS (.int 8))) (zf 1)) (zb (zB se (zb (zu 10) zm)) (zb (zB se (zb (zc yG (zf 10) (cS (.int 125))) zm)) zm))))))))))
  (ns:List Int) (many wide place k:Nat) (num sz:Int) (rows:List T) (hm:1<=many) (hp:place<many) (hw:wide<=12) (hm8:many<=8) (hl:rows.length<=1000):
  ∃ r x y z,qy many r/\turn (zL 7) bb (.int (0+(k:Int))) [some (.im (zP ns)),some (.im (.int many)),some (.im (.int num)),some (.im (.int wide)),some (.own (.lst rows)),some (.im (.int place)),some (.im (.int sz)),none,none,none,none]
   = some (.nx [some (.im (zP ns)),some (.im (.int many)),some (.im (.int num)),some (.im (.int wide)),some (.own (.lst (rows++[yt r]))),some (.im (.int place)),some (.im (.int sz)),some (.im (.int (0+(k:Int)))),x,y,z]):=by
 obtain⟨at',hat⟩:∃ at':Nat,(wide:Int)*(place:Int)+(0+(k:Int))=(at':Int):=⟨wide*place+k,by simp[Int.natCast_add,Int.natCast_mul]⟩
 have hc:=sf ns (4+at');rw[Int.natCast_add] at hc;have hc':yC [zP ns,.int (4+(at':Int))]=some (.int (cell ns (4+at'))):=hc;generalize cell ns (4+at')=ce at *;have m1:wz (wide:Int) (place:Int):=.inl ⟨by omega,by omega⟩;have m2:wz ce C:=hC ce;have m3:wz 61 (at':Int):=.inl ⟨by decide,by decide⟩;generalize hd:(ce*C+61*(at':Int)+17)%M=dr;have d8:xt dr 8:=⟨by decide,by decide⟩
 have d125:xt (dr/8) 125:=⟨by decide,by decide⟩
 obtain⟨a,ha⟩:=Zp (dr/8);obtain⟨b,hb⟩:=Zp (dr/8/125);have hmp:(0:Int)<many:=by omega
 have t0:0<=dr%8%many:=Int.emod_nonneg _ (by omega);have t1:dr%8%many<many:=Int.emod_lt_of_pos _ hmp;have hm':0<many:=hm;have hl':rows.length<16777216:=by omega
 refine⟨[(place:Int),((dr%8%many).toNat:Int),a,b],some (.im (.int (at':Int))),some (.im (.int dr)),some (.im (.int (dr/8))),⟨place,(dr%8%many).toNat,a,b,rfl,hp,by omega⟩,?_⟩;rw[Int.toNat_of_nonneg t0];have hr:yt [(place:Int),dr%8%many,a,b]=.tup [.int place,.int (dr%8%many),.int a,.int b]:=rfl;rw[hr];rw[show turn (zL 7) bb (.int (0+(k:Int))) [some (.im (zP ns)),some (.im (.int many)),some (.im (.int num)),some (.im (.int wide)),some (.own (.lst rows)),some (.im (.int place)),some (.im (.int sz)),none,none,none,none]=bb [some (.im (zP ns)),some (.im (.int many)),some (.im (.int num)),some (.im (.int wide)),some (.own (.lst rows)),some (.im (.int place)),some (.im (.int sz)),some (.im (.int (0+(k:Int)))),none,none,none] from rfl];subst hbb;generalize (0+(k:Int))=kk at *;generalize yC=fc at *;generalize se=fco at *;generalize zP ns=sc at *;rw[seq_eq (ρ':=[some (.im sc),some (.im (.int many)),some (.im (.int num)),some (.im (.int wide)),some (.own (.lst rows)),some (.im (.int place)),some (.im (.int sz)),some (.im (.int kk)),some (.im (.int at')),none,none]) (aW (rJ (rJ (x:=.int wide) (y:=.int place) rfl rfl (iE m1)) (y:=.int kk) rfl (by show some (T.int ((wide:Int)*(place:Int)+kk))=_;rw[hat])))];rw[seq_eq (ρ':=[some (.im sc),some (.im (.int many)),some (.im (.int num)),some (.im (.int wide)),some (.own (.lst rows)),some (.im (.int place)),some (.im (.int sz)),some (.im (.int kk)),some (.im (.int at')),some (.im (.int dr)),none]) (by simp[c8,hc',m2,m3,hd,hM])];rw[seq_eq (ρ':=[some (.im sc),some (.im (.int many)),some (.im (.int num)),some (.im (.int wide)),some (.own (.lst rows)),some (.im (.int place)),some (.im (.int sz)),some (.im (.int kk)),some (.im (.int at')),some (.im (.int dr)),some (.im (.int (dr/8)))]) (by simp[d8])];simp[d125,ha,hb,hm',hl']
theorem Yp (ns:List Int) (many wide place k:Nat) (num sz:Int) (rows:List T) (hm:1<=many) (hp:place<many) (hw:wide<=12) (hm8:many<=8) (hl:rows.length<=1000):
  ∃ r x y z,qy many r/\turn (zL 7) pD (.int (0+(k:Int))) [some (.im (zP ns)),some (.im (.int many)),some (.im (.int num)),some (.im (.int wide)),some (.own (.lst rows)),some (.im (.int place)),some (.im (.int sz)),none,none,none,none]
   = some (.nx [some (.im (zP ns)),some (.im (.int many)),some (.im (.int num)),some (.im (.int wide)),some (.own (.lst (rows++[yt r]))),some (.im (.int place)),some (.im (.int sz)),some (.im (.int (0+(k:Int)))),x,y,z]):=
 by
  refine Yo 999983 2957 ?_ ?_ pD ?_ ns many wide place k num sz rows hm hp hw hm8 hl
  .omega
  .exact λ _=>.inr ⟨by omega,by omega⟩
  .unfold pD;rfl
theorem Qy (ns:List Int) (many:Nat) (hm:1<=many) (hm8:many<=8):∃ ws:List Wy,pL [zP ns,.int many]=some (.tup (ws.map yH))/\ws.length<=60/\∀ w∈ws,w.f<many/\w.t<many:=by
 have hc:=sf ns 3;have c0:=nV ns 3;generalize cell ns 3=num at *;have hc':yC [zP ns,.int 3]=some (.int num):=hc;obtain⟨wide,hw,hw12⟩:∃ wide:Nat,L2.yd [T.int 3,.int 12] (if many<3 then 1 else 0)=some (.int (wide:Int))/\wide<=12:=by
  by_cases h:many<3
  .rw[if_pos h];exact⟨12,rfl,by decide⟩
  .rw[if_neg h];exact⟨3,rfl,by decide⟩
 obtain⟨ρ',h1,c,rows,h2,h3,h4,h5⟩:=u5 (is:=[5,6,7,8,9,10]) (g:=zL 5) (b:=k5) (λ k:Nat=>T.int (0+(k:Int))) (λ p ρ=>∃ (c:Int) (rows:List (List Int)),ρ=[some (.im (zP ns)),some (.im (.int many)),some (.im (.int c)),some (.im (.int wide)),some (.own (.lst (rows.map yt))),none,none,none,none,none,none]/\0<=c/\rows.length<=(if many<3 then 12 else 3)*p.length/\((∀ r∈rows,qy many r)/\(p≠[]->rows≠[])))
   (List.range many) [some (.im (zP ns)),some (.im (.int many)),some (.im (.int num)),some (.im (.int wide)),some (.own (.lst [])),none,none,none,none,none,none] ⟨num,[],rfl,c0,by simp,nofun,λ h=>absurd rfl h⟩ (by
  rintro p k q e ρ ⟨c,rows,rfl,r0,r1,r2,_⟩;have hp:p.length<many:=by have:=congrArg List.length e;simp at this;omega
  have hk:k<many:=List.mem_range.mp (by rw[e];simp);obtain⟨size,hs,s1,s2⟩:∃ size:Nat,(if (many<3/\c/3%8=1) then 9+(1+c%3) else 1+c%3)=(size:Int)/\1<=size/\size<=(if many<3 then 12 else 3):=by
   by_cases h:many<3/\c/3%8=1
   .rw[if_pos h,if_pos h.1];exact⟨(9+(1+c%3)).toNat,by omega,by omega,by omega⟩
   .rw[if_neg h];exact⟨(1+c%3).toNat,by omega,by omega,by split <;> omega⟩
  have hbig:(if many<3 then 12 else 3)*p.length<=96:=by split <;> omega
  obtain⟨ρ2,g1,rows',g2,g3,g4⟩:=u5 (is:=[7,8,9,10]) (g:=zL 7) (b:=pD) (λ k:Nat=>T.int (0+(k:Int))) (λ p' ρ=>∃ rows':List (List Int),ρ=[some (.im (zP ns)),some (.im (.int many)),some (.im (.int c)),some (.im (.int wide)),some (.own (.lst (rows'.map yt))),some (.im (.int k)),some (.im (.int size)),none,none,none,none]/\rows'.length=rows.length+p'.length/\∀ r∈rows',qy many r)
    (List.range size) [some (.im (zP ns)),some (.im (.int many)),some (.im (.int c)),some (.im (.int wide)),some (.own (.lst (rows.map yt))),some (.im (.int k)),some (.im (.int size)),none,none,none,none] ⟨rows,rfl,rfl,r2⟩ (by
   rintro p' k' q' e' ρ ⟨rows',rfl,u1,u2⟩;have hp':p'.length<size:=by have:=congrArg List.length e';simp at this;omega
   have hs12:size<=12:=by split at s2 <;> omega
   obtain⟨r,x,y,z,v1,v2⟩:=Yp ns many wide k k' c size (rows'.map yt) hm hk hw12 hm8 (by simp;omega);refine⟨_,v2,rows'++[r],by simp,by simp[u1];omega,λ r' hr'=>?_⟩;rcases List.mem_append.mp hr' with h | h
   .exact u2 r' h
   .cases List.mem_singleton.mp h;exact v1)
  subst g2;have hrg:=ou size (by split at s2 <;> omega);have d3:xt c 3:=⟨by decide,by decide⟩
  have d24:xt c 24:=⟨by decide,by decide⟩
  refine⟨[some (.im (zP ns)),some (.im (.int many)),some (.im (.int (c/24))),some (.im (.int wide)),some (.own (.lst (rows'.map yt))),some (.im (.int (0+(k:Int)))),some (.im (.int size)),none,none,none,none],?_,c/24,rows',by simp,by omega,?_,g4,λ _=>?_⟩
  .unfold turn k5;generalize pD=bb at *;simp only[Int.zero_add] at g1 hrg ⊢;generalize (List.range size).map (λ(k:Nat)=>T.int (k:Int))=RR at *;generalize rows'.map yt=L2' at *;generalize rows.map yt=L1' at *;generalize zP ns=sc at *;by_cases hA:many<3
   .have hA':(many:Int)<3:=by omega
    by_cases hB:c/3%8=1
    .rw[if_pos ⟨hA,hB⟩] at hs;simp[hA',hB,d3,d24,wj,eq_int,hs,hrg,g1]
    .rw[if_neg (λ h=>hB h.2)] at hs;simp[hA',hB,d3,d24,wj,eq_int,hs,hrg,g1]
   .have hA':¬ (many:Int)<3:=by omega
    rw[if_neg (λ h=>hA h.1)] at hs;simp[hA',d3,d24,wj,eq_int,hs,hrg,g1]
  .have:rows'.length=rows.length+size:=by simpa using g3
   rw[List.length_append,List.length_singleton,Nat.mul_add,Nat.mul_one];omega
  .have:rows'.length=rows.length+size:=by simpa using g3
   intro h;rw[h] at this;simp at this;omega)
 subst h2;have hrg:=ou many (by omega);have hlen:rows.length<64:=by
  rw[List.length_range] at h4;split at h4 <;> omega
 have hne:rows≠[]:=h5.2 (λ h=>by
  have:=congrArg List.length h;simp at this;omega)
 have hrow:∀ r∈rows,r≠[]:=λ r hr=>by obtain⟨f,t,a,b,rfl,_⟩:=h5.1 r hr;simp
 have hss:=Y_ rows hne hlen hrow;have hall:∀ r∈L4.xQ (wB rows),qy many r:=λ r hr=>h5.1 r (oW.mp ((L4.uN _).mem_iff.mp hr));have hl60:(L4.xQ (wB rows)).length<64:=by rw[(L4.uN _).length_eq];have:=lI rows;omega
 have conv:∀ l:List (List Int),(∀ r∈l,qy many r)->∃ ws:List Wy,l.map yt=ws.map yH/\ws.length=l.length/\∀ w∈ws,w.f<many/\w.t<many:=λ l=>by
  induction l with
  | nil=>exact λ _=>⟨[],rfl,rfl,nofun⟩
  | cons r l ih=>
   intro h;obtain⟨ws,e1,e2,e3⟩:=ih λ x hx=>h x (zMo _ hx);obtain⟨f,t,a,b,rfl,hf,ht⟩:=h r zMc;refine⟨⟨f,t,a,b⟩::ws,by rw[List.map_cons,List.map_cons,e1];rfl,by simp[e2],λ w hw=>?_⟩;rcases List.mem_cons.mp hw with x | x
   .subst x;exact⟨hf,ht⟩
   .exact e3 w x
 obtain⟨ws,e1,e2,e3⟩:=conv _ hall;refine⟨ws,?_,by
  have hn:(wB rows).length<=rows.length:=lI rows;rw[e2,(L4.uN _).length_eq];rw[List.length_range] at h4;split at h4 <;> omega,e3⟩
 rw[e1] at hss;unfold pL ZS;generalize k5=bb at *;generalize ws.map yH=L1 at *;generalize rows.map yt=L2' at *;generalize r9=sv at *;generalize (List.range many).map (λ(k:Nat)=>T.int (0+(k:Int)))=RR at *;generalize yC=fc at *;generalize zP ns=sc at *;by_cases hA:many<3
 .have hA':(many:Int)<3:=by omega
  rw[if_pos hA] at hw;simp[hc',wj,hA',hw,hrg,h1,hss]
 .have hA':¬ (many:Int)<3:=by omega
  rw[if_neg hA] at hw;simp[hc',wj,hA',hw,hrg,h1,hss]
end yB
namespace yB
open PySem L2 L3 L5 RN
theorem gs (x y:Str):ym false (.str x) (.str y)=some (.bl (x == y)):=by simp[ym,dep,eqT]
theorem YY (M C:Int) (hM:0<M) (hC:∀ i,wz i C) (kk:Str) (bb:Sm) (hbb:bb=(zx (zS 4 (zc z_ (zc y_ (zc y_ (zc wg (zB yC (zb (zu 0) (zb (zc y_ (cS (.int 28)) (zf 3)) zm))) (cS (.int C))) (zc wg (cS (.int 29)) (zf 3))) (cS (.int 5))) (cS (.int M))))
 (xo (rY (yu (zc (ym false) (zc zv (zf 1) (zf 3)) (cS (.str kk)))) (yu (zc (ym false) (zc z_ (zf 4) (cS (.int 3))) (cS (.int 1))))) (zx (zS 5 (zc yG (zf 4) (cS (.int 6))))
 (zx (zS 6 (zc y_ (cS (.int 1)) (zc zv (xF (zb (zc z_ (zf 5) (cS (.int 3))) (zb (zc z_ (zf 5) (cS (.int 3))) (zb (zc z_ (zf 5) (cS (.int 12))) zm)))) (zc z_ (zc yG (zf 5) (cS (.int 12))) (cS (.int 3))))))
 (zx (zS 7 (zc zv (xF (zb (zc z_ (zc yG (zf 5) (cS (.int 36))) (cS (.int 4))) (zb (zc z_ (zc yG (zf 5) (cS (.int 36))) (cS (.int 4))) (zb (zc z_ (zc yG (zf 5) (cS (.int 36))) (cS (.int 13))) zm)))) (zc z_ (zc yG (zf 5) (cS (.int 468))) (cS (.int 3)))))
 (uq 2 (tupS (zb (zu 3) (zb (zc z_ (zc yG (zf 4) (cS (.int 3))) (cS (.int 2))) (zb (zu 6) (zb (zu 7) zm))))))))) xn)))
  (ns:List Int) (ots:List T) (place:Nat) (s:Str) (hs:L2.yd ots (place:Int)=some (.str s)) (rows:List T) (hl:rows.length<=1000):
  ∃ more:List Sl,more.length<=1/\(∀ x∈more,1<=x.gv/\0<=x.gt)/\∃ a b c d,turn (zL 3) bb (.int (place:Int)) [some (.im (zP ns)),some (.im (.tup ots)),some (.own (.lst rows)),none,none,none,none,none]
   = some (.nx [some (.im (zP ns)),some (.im (.tup ots)),some (.own (.lst (rows++more.map yN))),some (.im (.int (place:Int))),a,b,c,d]):=by
 have hc:=sf ns (28+place);rw[Int.natCast_add] at hc;have hc':yC [zP ns,.int (28+(place:Int))]=some (.int (cell ns (28+place))):=hc;generalize cell ns (28+place)=ce at *;have m2:wz ce C:=hC ce;have m3:wz 29 (place:Int):=.inl ⟨by decide,by decide⟩;generalize hd:(ce*C+29*(place:Int)+5)%M=dr;have hdr:0<=dr:=by rw[<- hd];exact Int.emod_nonneg _ (by omega)
 have d6:xt dr 6:=⟨by decide,by decide⟩
 have d3:xt dr 3:=⟨by decide,by decide⟩
 have r0:0<=dr/6:=by omega
 generalize hrs:dr/6=rs at *;have d12:xt rs 12:=⟨by decide,by decide⟩
 have d36:xt rs 36:=⟨by decide,by decide⟩
 have d468:xt rs 468:=⟨by decide,by decide⟩
 obtain⟨gv,hg,g0⟩:=o4 (L:=[T.int (rs%3),.int (rs%3),.int (rs%12)]) (P:=λ v=>0<=v) (by intro y hy;simp only[List.mem_cons,List.mem_nil_iff,or_false] at hy;rcases hy with rfl | rfl | rfl <;> exact⟨_,rfl,by omega⟩) (i:=rs/12%3) (by omega) (by simp;omega);obtain⟨gt,ht,t0⟩:=o4 (L:=[T.int (rs/36%4),.int (rs/36%4),.int (rs/36%13)]) (P:=λ v=>0<=v) (by intro y hy;simp only[List.mem_cons,List.mem_nil_iff,or_false] at hy;rcases hy with rfl | rfl | rfl <;> exact⟨_,rfl,by omega⟩) (i:=rs/468%3) (by omega) (by simp;omega);have hl':rows.length<16777216:=by omega
 rw[show turn (zL 3) bb (.int (place:Int)) [some (.im (zP ns)),some (.im (.tup ots)),some (.own (.lst rows)),none,none,none,none,none]=bb [some (.im (zP ns)),some (.im (.tup ots)),some (.own (.lst rows)),some (.im (.int (place:Int))),none,none,none,none] from rfl];subst hbb;generalize yC=fc at *;generalize zP ns=sc at *;rw[seq_eq (ρ':=[some (.im sc),some (.im (.tup ots)),some (.own (.lst rows)),some (.im (.int (place:Int))),some (.im (.int dr)),none,none,none]) (aW (rJ (x:=.int (ce*C+29*(place:Int)+5)) (y:=.int M) (rJ (rJ (rJ (x:=.int ce) (y:=.int C) (by
   show ((zb (zu 0) (zb (zc y_ (cS (.int 28)) (zf 3)) zm)) _).bind fc=_;exact hc') rfl (iE m2)) (rJ (x:=.int 29) (y:=.int place) rfl rfl (iE m3)) rfl) rfl rfl) rfl (by
   show (if 0<M then some (T.int ((ce*C+29*(place:Int)+5)%M)) else none)=_;rw[if_pos hM,hd])))]
 by_cases hk:(s == kk)=true/\dr%3=1
 .refine⟨[⟨place,decide (dr/3%2=1),1+gv,gt⟩],by simp,λ x hx=>by cases List.mem_singleton.mp hx;exact⟨by show 1<=1+gv;omega,t0⟩,some (.im (.int dr)),some (.im (.int rs)),some (.im (.int (1+gv))),some (.im (.int gt)),?_⟩;have hpu:v5 (decide (dr/3%2=1))=dr/3%2:=by
   unfold v5;rcases Int.emod_two_eq (dr/3) with h | h <;> simp[h]
  have hsl:yN ⟨place,decide (dr/3%2=1),1+gv,gt⟩=.tup [.int place,.int (dr/3%2),.int (1+gv),.int gt]:=by
   unfold yN;rw[hpu]
  rw[List.map_cons,List.map_nil,hsl];simp[hs,gs,hk.1,eq_int,hk.2,d6,d3,hrs,d12,d36,d468,hg,ht,hl']
 .refine⟨[],by simp,nofun,some (.im (.int dr)),none,none,none,?_⟩;rw[List.map_nil,List.append_nil];by_cases h1:(s == kk)=true
  .have h2:¬ dr%3=1:=λ h=>hk ⟨h1,h⟩;simp[hs,gs,h1,eq_int,h2]
  .rw[Bool.not_eq_true] at h1;simp[hs,gs,h1]
theorem Q0 (ns:List Int) (os:List Bool) (h8:os.length<=8):∃ ss:List Sl,pM [zP ns,.tup (os.map kt)]=some (.tup (ss.map yN))/\ss.length<=60/\∀ s∈ss,1<=s.gv/\0<=s.gt:=by
 obtain⟨ρ',h1,ss,h2,h3,h4⟩:=u5 (is:=[3,4,5,6,7]) (g:=zL 3) (b:=n_) (λ k:Nat=>T.int (k:Int)) (λ p ρ=>∃ ss:List Sl,ρ=[some (.im (zP ns)),some (.im (.tup (os.map kt))),some (.own (.lst (ss.map yN))),none,none,none,none,none]/\ss.length<=p.length/\∀ s∈ss,1<=s.gv/\0<=s.gt)
   (List.range os.length) [some (.im (zP ns)),some (.im (.tup (os.map kt))),some (.own (.lst [])),none,none,none,none,none] ⟨[],rfl,Nat.le_refl _,nofun⟩ (by
  rintro p k q e ρ ⟨ss,rfl,r1,r2⟩;have hp:p.length<os.length:=by have:=congrArg List.length e;simp at this;omega
  have hk:k<os.length:=List.mem_range.mp (by rw[e];simp);obtain⟨s,hs⟩:∃ s:Str,L2.yd (os.map kt) (k:Int)=some (.str s):=by
   cases hb:os[k] with
   | true=>exact⟨"keeper",uo (by rw[List.getElem?_map,List.getElem?_eq_getElem hk,hb];rfl)⟩
   | false=>exact⟨"taker",uo (by rw[List.getElem?_map,List.getElem?_eq_getElem hk,hb];rfl)⟩
  obtain⟨more,m1,m2,a,b,c,d,m3⟩:=YY 999979 3571 (by omega) (λ _=>.inr ⟨by omega,by omega⟩) "keeper" n_ (by unfold n_;rfl) ns (os.map kt) k s hs (ss.map yN) (by simp;omega);refine⟨_,m3,ss++more,by simp,by simp;omega,λ x hx=>?_⟩;rcases List.mem_append.mp hx with h | h
  .exact r2 x h
  .exact m2 x h)
 subst h2;rw[List.length_range] at h3;refine⟨ss,?_,by omega,h4⟩;have hr:=ou os.length (by omega);simp only[Int.zero_add] at hr;unfold pM ZT;generalize n_=bb at *;generalize (List.range os.length).map (λ(k:Nat)=>T.int (k:Int))=R at *;have hlen:(os.map kt).length=os.length:=by simp
 generalize os.map kt=L1 at *;generalize ss.map yN=L2' at *;generalize zP ns=sc at *;simp[hlen,hr,h1]
theorem Q9 (ns:List Int):∃ F:zX,pO [zP ns]=some (zA F)/\F.Ok:=by
 have hc:=sf ns 0;have c0:=nV ns 0;generalize cell ns 0=num at *;have hc':yC [zP ns,.int 0]=some (.int num):=hc;have d8:xt num 8:=⟨by decide,by decide⟩
 obtain⟨mi,hm,m1,m8⟩:=o4 (L:=[T.int 2,.int 3,.int 1,.int 4,.int 3,.int 2,.int 4,.int (5+num/8%4)]) (P:=λ v=>1<=v/\v<=8) (by intro y hy;simp only[List.mem_cons,List.mem_nil_iff,or_false] at hy;rcases hy with rfl | rfl | rfl | rfl | rfl | rfl | rfl | rfl <;> exact⟨_,rfl,by omega,by omega⟩) (i:=num%8) (by omega) (by simp;omega);obtain⟨many,rfl⟩:∃ k:Nat,mi=(k:Int):=⟨mi.toNat,by omega⟩
 obtain⟨os,h1,o1⟩:=Q4 ns many (by omega);obtain⟨A,B,h2,a1,b1,ab⟩:=QH ns many;obtain⟨ws,h3,w1,w2⟩:=Qy ns many (by omega) (by omega);obtain⟨ss,h4,s1,s2⟩:=Q0 ns os (by omega);by_cases hbig:(A=12/\B=12)/\(6<ws.length\/0<ss.length)
 .refine⟨⟨12,3,os,ws,ss⟩,?_,⟨by show (0:Int)<=12;decide,by show (12:Int)<=12;decide,by show (0:Int)<=3;decide,by show (3:Int)<=12;decide,by show 1<=os.length;omega,by show os.length<=8;omega,λ w hw=>by show w.f<os.length/\w.t<os.length;rw[o1];exact w2 w hw,w1,s2,.inr (by show ((12:Int)+1)*(3+1)<64;decide),s1⟩⟩;obtain⟨⟨rfl,rfl⟩,hb⟩:=hbig;have he:ym false (.tup [.int 12,.int 12]) (.tup [.int 12,.int 12])=some (.bl true):=by simp[ym,dep,y7,eqT,xR]
  unfold pO fQ zA;have l1:(ws.map yH).length=ws.length:=by simp
  have l2:(ss.map yN).length=ss.length:=by simp
  generalize ws.map yH=L1 at *;generalize ss.map yN=L2' at *;generalize os.map kt=L3' at *;generalize yC=f1 at *;generalize pN=f2 at *;generalize pP=f3 at *;generalize pL=f4 at *;generalize pM=f5 at *;generalize zP ns=sc at *;rcases hb with hb | hb
  .have hb':(6:Int)<(ws.length:Int):=by omega
   simp[hc',d8,hm,h1,h2,h3,h4,he,l1,l2,hb',hb]
  .have hb':(0:Int)<(ss.length:Int):=by omega
   by_cases h6:6<ws.length
   .have h6':(6:Int)<(ws.length:Int):=by omega
    simp[hc',d8,hm,h1,h2,h3,h4,he,l1,l2,h6,h6']
   .have h6':¬ (6:Int)<(ws.length:Int):=by omega
    simp[hc',d8,hm,h1,h2,h3,h4,he,l1,l2,h6,h6',hb,hb']
 .refine⟨⟨A,B,os,ws,ss⟩,?_,⟨a1.1,a1.2,b1.1,b1.2,by show 1<=os.length;omega,by show os.length<=8;omega,λ w hw=>by show w.f<os.length/\w.t<os.length;rw[o1];exact w2 w hw,w1,s2,?_,s1⟩⟩
  .have he:ym false (.tup [.int A,.int B]) (.tup [.int 12,.int 12])=some (.bl (decide (A=12/\B=12))):=by
    by_cases x:A=12 <;> by_cases y:B=12 <;> simp[ym,dep,y7,eqT,xR,x,y]
   unfold pO fQ zA;have l1:(ws.map yH).length=ws.length:=by simp
   have l2:(ss.map yN).length=ss.length:=by simp
   generalize ws.map yH=L1 at *;generalize ss.map yN=L2' at *;generalize os.map kt=L3' at *;generalize yC=f1 at *;generalize pN=f2 at *;generalize pP=f3 at *;generalize pL=f4 at *;generalize pM=f5 at *;generalize zP ns=sc at *;by_cases hAB:A=12/\B=12
   .have n1:¬ 6<ws.length:=λ h=>hbig ⟨hAB,.inl h⟩;have n2:¬ 0<ss.length:=λ h=>hbig ⟨hAB,.inr h⟩;have n1':¬ (6:Int)<(ws.length:Int):=by omega
    have n2':¬ (0:Int)<(ss.length:Int):=by omega
    rw[decide_eq_true hAB] at he;simp[hc',d8,hm,h1,h2,h3,h4,he,l1,l2,n1,n2,n1',n2']
   .rw[decide_eq_false hAB] at he;simp[hc',d8,hm,h1,h2,h3,h4,he]
  .show ss=[]\/(A+1)*(B+1)<64;rcases ab with x | x
   .refine .inl ?_;cases ss with
    | nil=>rfl
    | cons a l=>exact absurd ⟨x,.inr (by simp)⟩ hbig
   .exact .inr x
end yB
namespace yB
open PySem L2 L3 L5 RN
theorem Q2 (A B:Int) (q:Int×Int) (h:(0<=q.1/\q.1<=A)/\0<=q.2/\q.2<=B):m5 [zr q,.tup [.tup [.int 0,.int A],.tup [.int 0,.int B]]]=some (.bl true):=by
 have hc:ku [some (.im (zr q)),some (.im (.tup [.tup [.int 0,.int A],.tup [.int 0,.int B]]))]=some (.lst ([(q.1,A),(q.2,B)].map λ x:Int×Int=>T.bl true)):=by
  unfold ku;refine rV (λ x:Int×Int=>T.tup [.int x.1,.tup [.int 0,.int x.2]]) _ [(q.1,A),(q.2,B)] (by simp[zr]) (by simp) λ x hx=>?_;have hx':0<=x.1/\x.1<=x.2:=by
   simp only[List.mem_cons,List.mem_nil_iff,or_false] at hx;rcases hx with rfl | rfl
   .exact h.1
   .exact h.2
  simp[Zn,hx']
 unfold m5 Ya;have it:ue "tuple" "tuple"=true:=by decide
 generalize ku=cc at *;simp[zr] at hc;simp[zr,it,eq_int,hc,rb]
theorem QG (F:zX) (q:Int×Int) (h:(0<=q.1/\q.1<=F.A)/\0<=q.2/\q.2<=F.B):m9 [zA F,zr q]=some .zk:=by
 have h1:=Q2 F.A F.B q h;have hw0:zv (zA F) (.int 0)=some (.tup [.int F.A,.int F.B]):=by simp[zA]
 unfold m9 Yf;generalize m5=ff at *;generalize zA F=fl at *;generalize zr q=pq at *;simp only[zv] at hw0;simp[hw0,h1]
end yB
namespace yB
open PySem L2 L3 L5 RN
def mq (F:zX) (x:Int×Int):Prop:=(0<=x.1/\x.1<=F.A)/\0<=x.2/\x.2<=F.B
theorem QM {F:zX}(ok:F.Ok) (ns:List Int) (pl:T) (b:Bd) (hg:Gd F.A F.B b):
  ∃ L:List (Int×Int),pQ [zP ns,zA F,pl,bT b]=some (.lst (L.map zr))/\L.length<=100/\∀ x∈L,mq F x:=by
 have hc:=sf ns 36;have c0:=nV ns 36;generalize cell ns 36=num at *;have hc':yC [zP ns,.int 36]=some (.int num):=hc;have a0:=ok.a0;have b0:=ok.b0;obtain⟨cnt,hcnt,cnt5⟩:∃ k:Nat,num%4=(k:Int)/\k<4:=⟨(num%4).toNat,by omega,by omega⟩
 have hw0:zv (zA F) (.int 0)=some (.tup [.int F.A,.int F.B]):=by simp[zA]
 have z0:mq F (0,0):=⟨⟨Int.le_refl _,a0⟩,Int.le_refl _,b0⟩
 have z1:mq F (F.A,F.B):=⟨⟨a0,Int.le_refl _⟩,b0,Int.le_refl _⟩
 obtain⟨ρ',h1,L,h2,h3,h4⟩:=u5 (is:=[5,6]) (g:=zL 5) (b:=ma) (λ k:Nat=>T.int (0+(k:Int))) (λ p ρ=>∃ L:List (Int×Int),ρ=[some (.im (zP ns)),some (.im (zA F)),some (.im pl),some (.im (bT b)),some (.own (.lst (L.map zr))),none,none,none,none,none]/\L.length=p.length+2/\∀ x∈L,mq F x)
   (List.range cnt) [some (.im (zP ns)),some (.im (zA F)),some (.im pl),some (.im (bT b)),some (.own (.lst [.tup [.int 0,.int 0],.tup [.int F.A,.int F.B]])),none,none,none,none,none] ⟨[(0,0),(F.A,F.B)],rfl,rfl,λ x hx=>by
    simp only[List.mem_cons,List.mem_nil_iff,or_false] at hx;rcases hx with rfl | rfl
    .exact z0
    .exact z1⟩ (by
  rintro p k q e ρ ⟨L,rfl,r1,r2⟩;have hp:p.length<cnt:=by have:=congrArg List.length e;simp at this;omega
  have hcc:=sf ns (37+k);rw[Int.natCast_add] at hcc;have hcc':yC [zP ns,.int (37+(0+(k:Int)))]=some (.int (cell ns (37+k))):=by rw[Int.zero_add];exact hcc
  have x0:=nV ns (37+k);generalize cell ns (37+k)=ce at *;have d13:xt ce 13:=⟨by decide,by decide⟩
  have hA:0<F.A+1:=by omega
  have hB:0<F.B+1:=by omega
  have u0:0<=ce%(F.A+1):=Int.emod_nonneg _ (by omega);have u1:ce%(F.A+1)<F.A+1:=Int.emod_lt_of_pos _ hA;have v0:0<=ce/13%(F.B+1):=Int.emod_nonneg _ (by omega);have v1:ce/13%(F.B+1)<F.B+1:=Int.emod_lt_of_pos _ hB;refine⟨[some (.im (zP ns)),some (.im (zA F)),some (.im pl),some (.im (bT b)),some (.own (.lst ((L++[(ce%(F.A+1),ce/13%(F.B+1))]).map zr))),some (.im (.int (0+(k:Int)))),some (.im (.int ce)),none,none,none],?_,L++[(ce%(F.A+1),ce/13%(F.B+1))],by simp,by simp only[List.length_append,List.length_cons,List.length_nil,r1],λ x hx=>?_⟩
  .have hl:(L.map zr).length<16777216:=by simp;omega
   have e1:(L++[(ce%(F.A+1),ce/13%(F.B+1))]).map zr=L.map zr++[.tup [.int (ce%(F.A+1)),.int (ce/13%(F.B+1))]]:=by simp[zr]
   rw[e1];unfold turn ma;generalize yC=fc at *;generalize L.map zr=LL at *;generalize zP ns=sc at *;generalize zA F=fl at *;generalize bT b=bt at *;generalize (0+(k:Int))=kk at *;simp only[zv] at hw0;simp[hcc',hw0,d13,hA,hB,hl]
  .rcases List.mem_append.mp hx with h | h
   .exact r2 x h
   .cases List.mem_singleton.mp h;exact⟨⟨u0,by show ce%(F.A+1)<=F.A;omega⟩,v0,by show ce/13%(F.B+1)<=F.B;omega⟩)
 subst h2;rw[List.length_range] at h3;have hr:=ou cnt (by omega);rw[<- hcnt] at hr;have d4:xt num 4:=⟨by decide,by decide⟩
 have d8:xt (num/4) 8:=⟨by decide,by decide⟩
 by_cases hb:b=[]
 .subst hb;refine⟨L,?_,by omega,h4⟩;have hbt:bT []=.tup []:=rfl;rw[hbt] at h1 ⊢;unfold pQ fS;generalize ma=bb at *;generalize yC=fc at *;generalize L.map zr=LL at *;generalize (List.range cnt).map (λ k:Nat=>T.int (0+(k:Int)))=RR at *;generalize zP ns=sc at *;generalize zA F=fl at *;simp only[zv] at hw0;simp[hc',hr,h1,hw0,d4]
 .have hlen0:0<b.length:=List.length_pos_iff.mpr hb;obtain⟨bl,hbl,bl1⟩:∃ k:Nat,num/4/8%(b.length:Int)=(k:Int)/\k<b.length:=by
   have:=Int.emod_lt_of_pos (num/4/8) (b:=(b.length:Int)) (by omega);have:=Int.emod_nonneg (num/4/8) (b:=(b.length:Int)) (by omega);exact⟨(num/4/8%(b.length:Int)).toNat,by omega,by omega⟩
  have hpr:=hg.vE _ (List.getElem_mem bl1);have hat:L2.yd (b.map zr) (bl:Int)=some (zr b[bl]):=uo (by rw[List.getElem?_map,List.getElem?_eq_getElem bl1];rfl);generalize hx:b[bl]=xy at *;obtain⟨x,y⟩:=xy;have mx1:yX (x-1)<=x:=by have:=hpr.1.1;unfold yX;dsimp only at this;split <;> omega
  have my1:yX (y-1)<=y:=by have:=hpr.2.1;unfold yX;dsimp only at this;split <;> omega
  refine⟨L++[(x,y),(yX (x-1),y),(x,yX (y-1))],?_,by simp;omega,λ z hz=>?_⟩
  .have e1:(L++[(x,y),(yX (x-1),y),(x,yX (y-1))]).map zr=L.map zr++[.tup [.int x,.int y],.tup [.int (yX (x-1)),.int y],.tup [.int x,.int (yX (y-1))]]:=by simp[zr]
   rw[e1];have hl2:(L.map zr).length+3<=16777216:=by simp;omega
   have hsq:xS (bT b)=some (b.map zr):=rfl;have hlb:wL [bT b]=some (.int (b.length:Int)):=by simp[bT]
   have hpt:zr (x,y)=.tup [.int x,.int y]:=rfl;rw[hpt] at hat;have hlen0':(0:Int)<(b.length:Int):=by omega
   clear hx;generalize b.length=bn at *;generalize b.map zr=BL at *;generalize bT b=bt at *;unfold pQ fS;generalize ma=bb at *;generalize yC=fc at *;generalize L.map zr=LL at *;generalize (List.range cnt).map (λ k:Nat=>T.int (0+(k:Int)))=RR at *;generalize zP ns=sc at *;generalize zA F=fl at *;generalize wL=ln at *;unfold yX;simp only[zv] at hw0;simp[hc',hr,h1,d4,d8,hw0,hl2,hlb,hlen0,hlen0',hbl,hsq,hat,sR]
   try omega
  .rcases List.mem_append.mp hz with h | h
   .exact h4 z h
   .simp only[List.mem_cons,List.mem_nil_iff,or_false] at h;rcases h with rfl | rfl | rfl
    .exact hpr
    .exact⟨⟨oV _,Int.le_trans mx1 hpr.1.2⟩,hpr.2⟩
    .exact⟨hpr.1,oV _,Int.le_trans my1 hpr.2.2⟩
end yB
namespace yB
open PySem L2 L3 L5 RN
theorem QL {F:zX}{pre:List (List Bd)}{lst:List Bd}(hr:rh [zA F]=some (.lst ((pre++[lst]).map rT))):sg [zA F]=some (rT lst):=by
 have hix:L2.yd ((pre++[lst]).map rT) (-1)=some (rT lst):=by
  rw[List.map_append];exact kC
 unfold sg Yh;generalize (pre++[lst]).map rT=L at *;generalize rh=f1 at *;generalize zA F=fl at *;simp[hr,hix]
theorem QA {F:zX}(ok:F.Ok) {lst:List Bd}(hB:sg [zA F]=some (rT lst)) (hl:lst.length=F.os.length/\∀ b∈lst,Gd F.A F.B b) {p:Nat}(hp:p<F.os.length) {q:Int×Int}(hq:mq F q):
  pS [zA F,.int (p:Int),zr q]=some (.bl (yf (lst.getD p []) q)):=by
 have h1:=fJ F p hp;have h2:=QG F q hq;have h3:=oZ lst p (by omega);have hp':p<lst.length:=by omega
 have hgd:Gd F.A F.B (lst.getD p []):=by
  rw[List.getD_eq_getElem?_getD,List.getElem?_eq_getElem hp'];exact hl.2 _ (List.getElem_mem hp')
 have h4:=Q7 (lst.getD p []) q (by have:=hgd.rR ok.a0;have:=ok.a1;omega);unfold pS Yc;generalize qu=f1 at *;generalize m9=f2 at *;generalize sg=f3 at *;generalize m6=f4 at *;generalize bT (lst.getD p [])=bt at *;generalize rT lst=rl at *;generalize zA F=fl at *;generalize zr q=pq at *;simp only[zv] at h3;simp[h1,h2,hB,h3,h4]
theorem Tt {F:zX}(sc:T) {lst:List Bd}{p:Nat}(hp:p<lst.length) {q:Int×Int}(he:pS [zA F,.int (p:Int),zr q]=some (.bl (yf (lst.getD p []) q))):
  ∃ ρ',yS [4,5] ρ'=[some (.im sc),some (.im (zA F)),some (.im (rT lst)),some (.im (.int (p:Int))),none,none,none]/\turn (zL 4) md (zr q) [some (.im sc),some (.im (zA F)),some (.im (rT lst)),some (.im (.int (p:Int))),none,none,none]=some (if (λ _:Int×Int=>false) q=true then .rt (.bl false) else .nx ρ'):=by
 have h3:=oZ lst p hp;have h4:=Q8 (bT (lst.getD p [])) (lst.getD p []) q rfl;generalize yf (lst.getD p []) q=c at *;refine⟨[some (.im sc),some (.im (zA F)),some (.im (rT lst)),some (.im (.int (p:Int))),some (.im (zr q)),some (.im (.bl c)),none],by simp,?_⟩;have ib:ue "bool" "bool"=true:=by decide
 have ie:ym true (.bl c) (.bl c)=some (.bl false):=by cases c <;> simp[ym,dep,eqT]
 rw[if_neg (by simp)];unfold turn md;generalize pS=f1 at *;generalize my=f2 at *;generalize bT (lst.getD p [])=bt at *;generalize rT lst=rl at *;generalize zA F=fl at *;generalize zr q=pq at *;simp only[zv] at h3;simp[he,h3,h4,ib,ie]
theorem qG {α:Type}{enc:α->T}(h:∀ x,plainT (enc x)=true):∀ l:List α,sI (l.map enc)=true
 | []=>rfl
 | x::l=>by simp only[List.map_cons,sI,h x,qG h l,Bool.and_self]
theorem Wi (b:Bd):plainT (bT b)=true:=by
 unfold bT;simp only[plainT];exact qG (λ x=>rfl) b
theorem Wg (b:Bool):plainT (kt b)=true:=by cases b <;> rfl
theorem Wh (F:zX):plainT (zA F)=true:=by
 have h1:=qG Wg F.os;have h2:=qG (enc:=yH) (λ _=>rfl) F.ws;have h3:=qG (enc:=yN) (λ _=>rfl) F.ss;unfold zA;simp[plainT,sI,h1,h2,h3]
theorem Rv (b:Bd):dep (bT b)<=2:=by
 have:=nK zr 1 ai b;show 1+y7 (b.map zr)<=2;omega
theorem bN (neg:Bool) (l:List Bd):ym neg (rT l) (rT l)=some (.bl (cond neg false true)):=by
 have:dep (rT l)<=60:=by
  have:=nK bT 2 Rv l;show 1+y7 (l.map bT)<=60;omega
 unfold ym;rw[if_pos ⟨this,this⟩,kf];rfl
theorem VL:∀ {l:List Bd},l≠[]->oI (l.map bT)=false
 | [],h=>absurd rfl h
 | _::_,_=>rfl
theorem Tu (ns:List Int) (_:ns.length<=63):pR [zP ns]=some (.bl true):=by
 obtain⟨F,h1,ok⟩:=Q9 ns;obtain⟨more,hr,hn,hm⟩:=Q3 ok;obtain⟨pre,lst,e⟩:∃ pre lst,RN.start F::more=pre++[lst]:=by
  rcases List.eq_nil_or_concat (RN.start F::more) with e | ⟨i,l,e⟩
  .cases e
  .exact⟨i,l,by rw[e,List.concat_eq_append]⟩
 rw[e] at hr hn;have hl:=hn lst (by simp);have hB:=QL hr;have hc':yC [zP ns,.int 36]=some (.int (cell ns 36)):=sf ns 36;generalize cell ns 36=num at *;have n1:=ok.n1;have hnp:(0:Int)<F.os.length:=by omega
 obtain⟨pl,hpl,pl1⟩:∃ k:Nat,num/4%F.os.length=(k:Int)/\k<F.os.length:=⟨(num/4%F.os.length).toNat,by rw[Int.toNat_of_nonneg (Int.emod_nonneg _ (by omega))],by have:=Int.emod_lt_of_pos (num/4) hnp;have:=Int.emod_nonneg (num/4) (b:=(F.os.length:Int)) (by omega);omega⟩
 have pl2:pl<lst.length:=by omega
 have hixp:=oZ lst pl pl2;have hgd:Gd F.A F.B (lst.getD pl []):=by
  rw[List.getD_eq_getElem?_getD,List.getElem?_eq_getElem pl2];exact hl.2 _ (List.getElem_mem pl2)
 obtain⟨L,hA,hL,hLi⟩:=QM ok ns (.int pl) (lst.getD pl []) hgd;have hloop:=iO (is:=[4,5]) (g:=zL 4) (b:=md) zr (λ _=>false) (.bl false) [some (.im (zP ns)),some (.im (zA F)),some (.im (rT lst)),some (.im (.int (pl:Int))),none,none,none] L [some (.im (zP ns)),some (.im (zA F)),some (.im (rT lst)),some (.im (.int (pl:Int))),none,none,none] (by simp) λ q hq=>Tt (zP ns) pl2 (QA ok hB hl pl1 (hLi q hq));have hany:L.any (λ _=>false)=false:=by simp
 rw[hany,if_neg (by decide)] at hloop;have hix:L2.yd ((pre++[lst]).map rT) (-1)=some (rT lst):=by
  rw[List.map_append];exact kC
 have hw1:zv (zA F) (.int 1)=some (.tup (F.os.map kt)):=by simp[zA]
 have hlo:wL [.tup (F.os.map kt)]=some (.int F.os.length):=by simp
 have q1:=bN true lst;have q2:=bN false lst;have p1:=Wh F;have p2:=qG Wi lst;have p3:=VL (l:=lst) (λ h=>by rw[h] at pl2;cases pl2);have p4:plainT (zP ns)=false:=rfl;have d4:xt num 4:=⟨by decide,by decide⟩
 have il:ue "list" "list"=true:=by decide
 have hls:(lst.map bT).length<=16777216:=by
  have:=ok.n8;simp;omega
 have hnp':0<F.os.length:=by omega
 have er:rT lst=.lst (lst.map bT):=rfl;rw[er] at hB hixp hloop hix q1 q2;unfold pR ZY;generalize md=bb at *;generalize pO=f1 at *;generalize rh=f2 at *;generalize pQ=f3 at *;generalize sg=f4 at *;generalize yC=f5 at *;generalize L.map zr=LL at *;generalize (pre++[lst]).map rT=tt at *;generalize bT (lst.getD pl [])=bt at *;generalize lst.map bT=RL at *;generalize F.os.map kt=ol at *;generalize zA F=fl at *;generalize zP ns=sc at *;generalize hee:ym=ee at *;generalize wL=ln at *;simp only[zv] at hw1;replace hixp:L2.yd RL (pl:Int)=some bt:=hixp;simp[h1,hr,hB,hix,il,q1,q2,hc',d4,hw1,hlo,hnp,hnp',hpl,hixp,hA,hloop,hls,p1,p2,p3,p4]
end yB
theorem PySem.W.Fast.tw7679978320753734139:True:=trivial
theorem PySem.W.Fast.tw17284290840678246429:True:=trivial
theorem PySem.W.Fast.tw12912666055184877280:True:=trivial
theorem PySem.W.Fast.te3173792799902281898:True:=trivial
theorem PySem.W.Fast.tw10175052349085443554:True:=trivial
theorem PySem.W.Fast.tw3641117578524246029:True:=trivial
theorem PySem.W.Fast.tw15054590613796619250:True:=trivial
theorem PySem.W.Fast.tw2411865816412408531:True:=trivial
theorem PySem.W.Fast.tw8786250689858187726:True:=trivial
theorem PySem.W.Fast.tw17925006578907881941:True:=trivial
namespace yB
open PySem L2 L3 L5
open PyProof.Rows hiding St
def yx (i:Nat):Stmt:=PySem.Challenge.pw_purseborder_k41_borders_told.main.body.getD i (.Pass ⟨0,0,0,0⟩)
abbrev jF:Stmt:=yx 6
abbrev jE:Stmt:=yx 7
abbrev lg:Stmt:=yx 8
abbrev jy:Stmt:=yx 9
abbrev jI:Stmt:=yx 10
abbrev jJ:Stmt:=yx 11
abbrev mZ:Stmt:=yx 12
abbrev jw:Stmt:=yx 13
abbrev jO:Stmt:=yx 15
abbrev j0:Stmt:=yx 16
abbrev lh:Stmt:=yx 17
abbrev oj:Stmt:=yx 18
abbrev jH:Stmt:=yx 19
abbrev om:Stmt:=yx 21
abbrev jz:Stmt:=yx 22
abbrev jN:Stmt:=yx 23
abbrev jL:Stmt:=yx 24
abbrev jM:Stmt:=yx 25
abbrev oh:Stmt:=yx 26
abbrev lb:Stmt:=yx 27
abbrev m_:Stmt:=yx 28
abbrev jK:Stmt:=yx 30
abbrev jG:Stmt:=yx 31
abbrev jA:Stmt:=yx 33
abbrev j9:Stmt:=yx 34
abbrev jB:Stmt:=yx 35
abbrev j6:Stmt:=yx 36
abbrev j4:Stmt:=yx 37
abbrev j5:Stmt:=yx 38
abbrev j8:Stmt:=yx 39
abbrev j7:Stmt:=yx 40
abbrev jC:Stmt:=yx 41
abbrev jD:Stmt:=yx 42
theorem Xq:yp ["thing"] ["thing"] (zJ jF):=⟨rfl,rfl,rfl,by decide +kernel,rfl,by decide +kernel,by decide +kernel⟩
theorem Xm:yp ["floor"] ["floor"] (zJ jy):=⟨rfl,rfl,rfl,by decide +kernel,rfl,by decide +kernel,by decide +kernel⟩
theorem Xy:yp ["pair","other"] ["pair","other"] (zJ jO):=⟨rfl,rfl,rfl,by decide +kernel,rfl,by decide +kernel,by decide +kernel⟩
theorem jt:yp ["pairs","least","pair"] ["pairs"] (zJ j0):=⟨rfl,rfl,rfl,by decide +kernel,rfl,by decide +kernel,by decide +kernel⟩
theorem rB:yp ["brims","stall","pair","purse","pairs","given","got"] ["brims","stall","pair"] (zJ jz):=⟨rfl,rfl,rfl,by decide +kernel,rfl,by decide +kernel,by decide +kernel⟩
theorem Xo:yp ["_law_script","_law_k"] ["_law_script","_law_k"] (zJ jA):=⟨rfl,rfl,rfl,by decide +kernel,rfl,by decide +kernel,by decide +kernel⟩
theorem Xn:yp ["_law_number"] ["_law_number"] (zJ j9):=⟨rfl,rfl,rfl,by decide +kernel,rfl,by decide +kernel,by decide +kernel⟩
theorem ju:yp ["_law_border","_law_pair","_law_x","_law_y"] ["_law_border","_law_pair"] (zJ j7):=⟨rfl,rfl,rfl,by decide +kernel,rfl,by decide +kernel,by decide +kernel⟩
theorem Xp:yp ["thing","least","most"] ["thing","least","most"] (zJ jE):=⟨rfl,rfl,rfl,by decide +kernel,rfl,by decide +kernel,by decide +kernel⟩
theorem Xs:yp ["border","pair"] ["border","pair"] (zJ lh):=⟨rfl,rfl,rfl,by decide +kernel,rfl,by decide +kernel,by decide +kernel⟩
theorem rE:yp ["border","other","steps","lows","shared","first","side","second"] ["border","other"] (zJ oj):=⟨rfl,rfl,rfl,by decide +kernel,rfl,by decide +kernel,by decide +kernel⟩
theorem Xu:yp ["border","other"] ["border","other"] (zJ jH):=⟨rfl,rfl,rfl,by decide +kernel,rfl,by decide +kernel,by decide +kernel⟩
theorem eW:yp ["brims","way","border","pairs"] ["brims","way","border"] (zJ om):=⟨rfl,rfl,rfl,by decide +kernel,rfl,by decide +kernel,by decide +kernel⟩
theorem jv:yp ["_law_script","_law_many","_law_number","_law_found"] ["_law_script","_law_many"] (zJ jB):=⟨rfl,rfl,rfl,by decide +kernel,rfl,by decide +kernel,by decide +kernel⟩
theorem og:yp ["_law_script","_law_many","_law_number","_law_found","_law_place"] ["_law_script","_law_many"] (zJ j6):=⟨rfl,rfl,rfl,by decide +kernel,rfl,by decide +kernel,by decide +kernel⟩
theorem vW:yp ["_law_script","_law_many","_law_number","_law_wide","_law_found","_law_place","_law_size","_law_k","_law_at","_law_drawn","_law_rest"] ["_law_script","_law_many"] (zJ j4):=⟨rfl,rfl,rfl,by decide +kernel,rfl,by decide +kernel,by decide +kernel⟩
theorem rC:yp ["_law_script","_law_owners_here","_law_found","_law_place","_law_drawn","_law_rest","_law_give","_law_get"] ["_law_script","_law_owners_here"] (zJ j5):=⟨rfl,rfl,rfl,by decide +kernel,rfl,by decide +kernel,by decide +kernel⟩
theorem sF:yp ["_law_script","_law_floor_here","_law_place","_law_border","_law_found","_law_k","_law_cell_here","_law_at","_law_x","_law_y"] ["_law_script","_law_floor_here","_law_place","_law_border"] (zJ jC):=⟨rfl,rfl,rfl,by decide +kernel,rfl,by decide +kernel,by decide +kernel⟩
theorem Xr:yp ["thing","bounds"] ["thing","bounds"] (zJ lg):=⟨rfl,rfl,rfl,by decide +kernel,rfl,by decide +kernel,by decide +kernel⟩
theorem Xv:yp ["floor","place"] ["floor","place"] (zJ jI):=⟨rfl,rfl,rfl,by decide +kernel,rfl,by decide +kernel,by decide +kernel⟩
theorem mW:yp ["borders","joined","border"] ["borders"] (zJ jL):=⟨rfl,rfl,rfl,by decide +kernel,rfl,by decide +kernel,by decide +kernel⟩
theorem mX:yp ["borders","joined","border"] ["borders"] (zJ jM):=⟨rfl,rfl,rfl,by decide +kernel,rfl,by decide +kernel,by decide +kernel⟩
theorem sE:yp ["_law_script","_law_number","_law_many","_law_owners_here","_law_brims_here","_law_ways_here","_law_stalls_here"] ["_law_script"] (zJ j8):=⟨rfl,rfl,rfl,by decide +kernel,rfl,by decide +kernel,by decide +kernel⟩
theorem Xw:yp ["floor","pair"] ["floor","pair"] (zJ jJ):=⟨rfl,rfl,rfl,by decide +kernel,rfl,by decide +kernel,by decide +kernel⟩
theorem Xl:yp ["floor","place"] ["floor","place"] (zJ mZ):=⟨rfl,rfl,rfl,by decide +kernel,rfl,by decide +kernel,by decide +kernel⟩
theorem eV:yp ["floor","place","stall"] ["floor","place"] (zJ jw):=⟨rfl,rfl,rfl,by decide +kernel,rfl,by decide +kernel,by decide +kernel⟩
theorem mY:yp ["floor","place","border","stall","pairs","pair"] ["floor","place","border"] (zJ jN):=⟨rfl,rfl,rfl,by decide +kernel,rfl,by decide +kernel,by decide +kernel⟩
theorem js:yp ["floor","place","last","ways","ahead"] ["floor","place","last"] (zJ oh):=⟨rfl,rfl,rfl,by decide +kernel,rfl,by decide +kernel,by decide +kernel⟩
theorem jr:yp ["floor","last","fresh","following","place"] ["floor","last","fresh"] (zJ lb):=⟨rfl,rfl,rfl,by decide +kernel,rfl,by decide +kernel,by decide +kernel⟩
theorem qC:yp ["floor","told","fresh","last","following"] ["floor"] (zJ m_):=⟨rfl,rfl,rfl,by decide +kernel,rfl,by decide +kernel,by decide +kernel⟩
theorem Xx:yp ["floor"] ["floor"] (zJ jK):=⟨rfl,rfl,rfl,by decide +kernel,rfl,by decide +kernel,by decide +kernel⟩
theorem Xt:yp ["floor","place","pair"] ["floor","place","pair"] (zJ jG):=⟨rfl,rfl,rfl,by decide +kernel,rfl,by decide +kernel,by decide +kernel⟩
theorem rD:yp ["_law_script","_law_floor_here","_law_found","_law_place","_law_pair","_law_told","_law_kept"] ["_law_script"] (zJ jD):=⟨rfl,rfl,rfl,by decide +kernel,rfl,by decide +kernel,by decide +kernel⟩
section
variable (P:Program) (w:World) (K:PySem.W.Frag) (mg:Str->Option Value) (base:Heap)
abbrev Z7:=FD P w K mg base "is_whole" 1 ["thing"] (yj zM kQ)
abbrev fL:=FD P w K mg base "places_of" 1 ["floor"] (yj zM qt)
abbrev fO:=FD P w K mg base "at_or_above" 1 ["pair","other"] (yj zM pU)
abbrev mF:=FD P w K mg base "least_pairs" 1 ["pairs"] (yj zM sd)
abbrev Zt:=FD P w K mg base "pairs_ahead_of_changes" 1 ["brims","stall","pair"] (yj zM mv)
abbrev rm:=FD P w K mg base "_law_cell" 1 ["_law_script","_law_k"] (yj zM yC)
abbrev Z4:=FD P w K mg base "_law_coins" 1 ["_law_number"] (yj zM se)
abbrev Zz:=FD P w K mg base "_law_held" 1 ["_law_border","_law_pair"] (yj zM my)
abbrev fM:=FD P w K mg base "is_whole_within" 2 ["thing","least","most"] (yj zM mz)
abbrev Z9:=FD P w K mg base "holds" 2 ["border","pair"] (yj zM m6)
abbrev ZE:=FD P w K mg base "both" 2 ["border","other"] (yj zM mB)
abbrev ZC:=FD P w K mg base "either" 2 ["border","other"] (yj zM m7)
abbrev ZH:=FD P w K mg base "border_ahead_of_way" 2 ["brims","way","border"] (yj zM mE)
abbrev Z5:=FD P w K mg base "_law_brims" 2 ["_law_script","_law_many"] (yj zM pP)
abbrev Zy:=FD P w K mg base "_law_owners" 2 ["_law_script","_law_many"] (yj zM pN)
abbrev Zw:=FD P w K mg base "_law_ways" 2 ["_law_script","_law_many"] (yj zM pL)
abbrev Zx:=FD P w K mg base "_law_stalls" 2 ["_law_script","_law_owners_here"] (yj zM pM)
abbrev Z6:=FD P w K mg base "_law_asked" 2 ["_law_script","_law_floor_here","_law_place","_law_border"] (yj zM pQ)
abbrev Z8:=FD P w K mg base "is_row_within" 3 ["thing","bounds"] (yj zM m5)
abbrev kS:=FD P w K mg base "check_place" 3 ["floor","place"] (yj zM qu)
abbrev ZF:=FD P w K mg base "border_of_either" 3 ["borders"] (yj uu mC)
abbrev ZG:=FD P w K mg base "border_of_all" 3 ["borders"] (yj uu mD)
abbrev Z2:=FD P w K mg base "_law_floor" 3 ["_law_script"] (yj zM pO)
abbrev ZD:=FD P w K mg base "check_pair" 4 ["floor","pair"] (yj zM m9)
abbrev Zr:=FD P w K mg base "ways_from" 4 ["floor","place"] (yj zM mr)
abbrev Zs:=FD P w K mg base "stall_at" 4 ["floor","place"] (yj uu qq)
abbrev ZI:=FD P w K mg base "border_ahead_of_changes" 5 ["floor","place","border"] (yj uu pT)
abbrev Zv:=FD P w K mg base "next_border" 6 ["floor","place","last"] (yj uu mx)
abbrev Zu:=FD P w K mg base "next_round" 7 ["floor","last","fresh"] (yj zM pK)
abbrev fK:=FD P w K mg base "rounds" 8 ["floor"] (yj zM rh)
abbrev fN:=FD P w K mg base "borders" 9 ["floor"] (yj uu sg)
abbrev ZA:=FD P w K mg base "enough" 10 ["floor","place","pair"] (yj zM pS)
variable {K mg} (T:Bt mg) (U:Bq mg)
include T U
theorem Us (F:Fy K mg "is_whole" jF):Z7 P w K mg base:=
 yI (k:=0) F Xq rfl (λ _ _ _ _ _ _=>tT λ _=>rfl) λ f cdv A outer s H E hr=>⟨_,
  (zI (yh (iw (Vi T (za 0 (pv 0))) (iq (Vb (dU T (za 0 (pv 0)))))))),
  (yq (i7 ((oK (zl 0))).fr (V_ ((oK (zl 0))).fr)))⟩
theorem VY (F:Fy K mg "places_of" jy):fL P w K mg base:=
 yI (k:=0) F Xm rfl (λ _ _ _ _ _ _=>tT λ _=>rfl) λ f cdv A outer s H E hr=>⟨_,
  (zI (yh (uR T.len (ze (zG (za 0 (pv 0)) zh) zp)))),
  (yq (y4 uV (zV ((zt zH (zl 0) ((zi _)).fr)).er yi)))⟩
theorem UA (F:Fy K mg "at_or_above" jO):fO P w K mg base:=
 yI (k:=0) F Xy rfl (λ _ _ _ _ _ _=>vf λ _ _=>rfl) λ f cdv A outer s H E hr=>⟨_,
  (zI (yh (iw (dW (zG (za 0 (pv 0)) zh) (zG (za 1 (pv 1)) zh)) (iq (dW (zG (za 0 (pv 0)) zh) (zG (za 1 (pv 1)) zh)))))),
  (yq (i7 ((lH ((zt zH (zl 0) ((zi _)).fr)).er ((zt zH (zl 1) ((zi _)).fr)).er)).fr (lH ((zt zH (zl 0) ((zi _)).fr)).er ((zt zH (zl 1) ((zi _)).fr)).er)))⟩
theorem Uc (F:Fy K mg "least_pairs" j0):mF P w K mg base:=
 yI (k:=0) F jt rfl (λ _ _ _ _ _ _=>tT λ _=>rfl) λ f cdv A outer s H E hr=>⟨_,
  (zD (zR 1 jt.nd (xT zp))
  (zD (vj PassesOwn.never rfl (wA (dR T.sorted (ze (za 0 (pv 0)) zp))) (yF 2 jt.nd) (zI (xC (wy.pt (o7 (qJ (tD (za 1 (pv 1)))) (o6 (lx hr (zG (za 2 (pv 2)) zh) (zG (zG (za 1 (pv 1)) (l6 zh)) zh))))) (zI (vk (sL (za 1 (pv 1)) (za 2 (pv 2))))) xB)))
  (zI (yh (oB T.tuple (ze (za 1 (pv 1)) zp)))))),
  (zF (uc 1 (xV zy))
  (zF (vl (tG ((y4 bz (zV (zl 0) yi))).fe) (xU 2) (xE (oM (qR (tH (zl 1))) (yQ (zt nr ((zt zH (zl 2) ((zi _)).fr)).er ((zt zH ((zt zH (zl 1) ((lF ((zi _)).fr)).fr)).er ((zi _)).fr)).er).fr)) (sM 1 (zw 2)) xD))
  (yq (y4 nq (zV (zl 1) yi)))))⟩
theorem VZ (F:Fy K mg "pairs_ahead_of_changes" jz):Zt P w K mg base:=
 yI (k:=0) F rB rfl (λ _ _ _ _ _ _=>qe λ _ _ _=>rfl) λ f cdv A outer s H E hr=>⟨_,
  (zD (zR 3 rB.nd (zG (za 1 (pv 1)) zh))
  (zD (zR 4 rB.nd (xT zp))
  (zD (zR 5 rB.nd (zG (za 2 (pv 2)) (za 3 (pv 3))))
  (zD (zR 6 rB.nd (zG (za 2 (pv 2)) (tE zh (za 3 (pv 3)))))
  (zD (dM PassesOwn.never (WQ (za 5 (pv 5)) (zG (za 0 (pv 0)) (za 3 (pv 3)))) (zD (vk (sL (za 4 (pv 4)) (Vk (v7 hr (za 3 (pv 3)) zh) (xc (ze (za 5 (pv 5)) (ze (za 6 (pv 6)) zp))) (xc (ze (za 6 (pv 6)) (ze (za 5 (pv 5)) zp))))))
  (zD (zR 5 rB.nd (we (za 5 (pv 5)) (zG (za 1 (pv 1)) zh)))
  (zI (zR 6 rB.nd (qO T.max (ze zh (ze (tE (za 6 (pv 6)) (zG (za 1 (pv 1)) zh)) zp))))))))
  (zI (yh (za 4 (pv 4))))))))),
  (zF (yc 3 (zt zH (zl 1) ((zi _)).fr))
  (zF (uc 4 (xV zy))
  (zF (yc 5 (zt zH (zl 2) (zl 3)))
  (zF (yc 6 (zt zH (zl 2) ((tI ((zi _)).fr (zl 3))).fr))
  (zF (cj (yQ (Ud (zl 5) ((zt zH (zl 0) (zl 3))).er).fr) (zF (sM 4 (Uu (yQ (zt wo (zl 3) ((zi _)).fr).fr) ((xf (zj (zw 5) (zj (zw 6) zy)))).fe ((xf (zj (zw 6) (zj (zw 5) zy)))).fe))
  (zF (yc 5 ((zt good_add (zl 5) ((zt zH (zl 1) ((zi _)).fr)).er)).fe)
  (yc 6 ((y4 ph (zV ((zi _)).fr (zV ((tI (zl 6) ((zt zH (zl 1) ((zi _)).fr)).er)).fr yi)))).fe))))
  (lC 4))))))⟩
theorem Ul (F:Fy K mg "_law_cell" jA):rm P w K mg base:=
 yI (k:=0) F Xo rfl (λ _ _ _ _ _ _=>vf λ _ _=>rfl) λ f cdv A outer s H E hr=>⟨_,
  (zD (xC (lx hr (za 1 (pv 1)) (uR T.len (ze (za 0 (pv 0)) zp))) (zI (yh (yy (zG (za 0 (pv 0)) (za 1 (pv 1))) (Va zh zh)))) xB)
  (zI (yh zh))),
  (zF (xE (yQ (zt nr (zl 1) ((y4 uV (zV (zl 0) yi))).fr).fr) (yq (yz ((zt zH (zl 0) (zl 1))).er ((VX ((zi _)).fr ((zi _)).fr)).fr)) xD)
  (yq (zi _)))⟩
theorem Uk (F:Fy K mg "_law_coins" j9):Z4 P w K mg base:=
 yI (k:=0) F Xn rfl (λ _ _ _ _ _ _=>tT λ _=>rfl) λ f cdv A outer s H E hr=>⟨_,
  (zD (xC (v7 hr (yy (za 0 (pv 0)) zh) zh) (zI (yh (tE (yy (xv (za 0 (pv 0)) zh) zh) zh))) xB)
  (zI (yh (tE (yy (yy (xv (za 0 (pv 0)) zh) zh) zh) zh)))),
  (zF (xE (yQ (zt wo ((yz (zl 0) ((zi _)).fr)).fr ((zi _)).fr).fr) (yq (tI ((yz ((xw (zl 0) ((zi _)).fr)).fr ((zi _)).fr)).fr ((zi _)).fr)) xD)
  (yq (tI ((yz ((yz ((xw (zl 0) ((zi _)).fr)).fr ((zi _)).fr)).fr ((zi _)).fr)).fr ((zi _)).fr)))⟩
theorem Ui (F:Fy K mg "_law_held" j7):Zz P w K mg base:=
 yI (k:=0) F ju rfl (λ _ _ _ _ _ _=>vf λ _ _=>rfl) λ f cdv A outer s H E hr=>⟨_,
  (zD (vj PassesOwn.never rfl (wA (za 0 (pv 0))) (qL (n:=2) (v8 (yF 2 ju.nd) (v8 (yF 3 ju.nd) qK))) (zI (xC (wy.pt (o9 (dJ (zG (za 1 (pv 1)) zh) (za 2 (pv 2))) (o8 (dJ (zG (za 1 (pv 1)) zh) (za 3 (pv 3)))))) (zI (yh oE)) xB)))
  (zI (yh oE))),
  (zF (vl (tG (zw 0)) (i4 (rL (xU 2) (rL (xU 3) i3))) (xE (oO (yQ (lH ((zt zH (zl 1) ((zi _)).fr)).er (zl 2)).fr) (yQ (lH ((zt zH (zl 1) ((zi _)).fr)).er (zl 3)).fr)) (yq (oP _)) xD))
  (yq (oP _)))⟩
theorem Ur (F:Fy K mg "is_whole_within" jE) (fy:Z7 P w K mg base):fM P w K mg base:=
 yI (k:=1) F Xp rfl (λ _ _ _ _ _ _=>qe λ _ _ _=>rfl) λ f cdv A outer s H E hr=>⟨_,
  (zI (yh (iw (zU fy (hr.mono (by decide)) (ze (za 0 (pv 0)) zp)) (iq (Vs i0 i0 fit_le fit_le x9.mo x9.mo (za 1 (pv 1)) (za 0 (pv 0)) (za 2 (pv 2))))))),
  (yq (i7 ((zW (zj (zw 0) zy))).fr (U3 b6 b6 (zl 1) (zl 0) (zl 2))))⟩
theorem Uv (F:Fy K mg "holds" lh) (pJ:fO P w K mg base):Z9 P w K mg base:=
 yI (k:=1) F Xs rfl (λ _ _ _ _ _ _=>vf λ _ _=>rfl) λ f cdv A outer s H E hr=>⟨_,
  (zI (yh (Vv T.any (ze (rG (N':=["own","pair"]) (pick:=[none,some 1]) (uD (N:=["border","pair"]) (esc:=zJ lh)) rfl (wA (za 0 (pv 0))) (λ _ _ _ _ _=>(yF 0 (by decide +kernel:List.Nodup (α:=Str) ["own","pair"]))) (λ _ _ _ _ _=>rF) (λ _ _ _ _ _=>(zU pJ (hr.mono (by decide)) (ze (za 1 (pv 1)) (ze (za 0 (pv 0)) zp))))) zp)))),
  (yq (y4 b8 (zV ((u4 (sN (zl 0)) (vm 0) rM ((zW (zj (zw 1) (zj (zw 0) zy)))).fe)).fr yi)))⟩
theorem U4 (F:Fy K mg "both" oj) (ux:mF P w K mg base):ZE P w K mg base:=
 yI (k:=1) F rE rfl (λ _ _ _ _ _ _=>vf λ _ _=>rfl) λ f cdv A outer s H E hr=>⟨_,
  (zD (zR 2 rE.nd (we (rG (N':=["pair"]) (pick:=[none]) (uD (N:=["border","other","steps","lows","shared","first","side","second"]) (esc:=zJ oj)) rfl (wA (za 0 (pv 0))) (λ _ _ _ _ _=>(yF 0 (by decide +kernel:List.Nodup (α:=Str) ["pair"]))) (λ _ _ _ _ _=>rF) (λ _ _ _ _ _=>(xc (ze (zG (za 0 (pv 0)) zh) (ze zh (ze (zG (za 0 (pv 0)) zh) zp)))))) (rG (N':=["pair"]) (pick:=[none]) (uD (N:=["border","other","steps","lows","shared","first","side","second"]) (esc:=zJ oj)) rfl (wA (za 1 (pv 1))) (λ _ _ _ _ _=>(yF 0 (by decide +kernel:List.Nodup (α:=Str) ["pair"]))) (λ _ _ _ _ _=>rF) (λ _ _ _ _ _=>(xc (ze (zG (za 0 (pv 0)) zh) (ze zh (ze (zG (za 0 (pv 0)) zh) zp))))))))
  (zD (zR 3 rE.nd Vp)
  (zD (zR 4 rE.nd (xT zp))
  (zD (vj PassesOwn.never rfl (wA (dR T.sorted (ze (za 2 (pv 2)) zp))) (qL (n:=3) (v8 (yF 5 rE.nd) (v8 (yF 6 rE.nd) (v8 (yF 7 rE.nd) qK)))) (zD (WV hr (za 3 (pv 3)) (za 6 (pv 6)) (ir T.min (ze (za 7 (pv 7)) (ze (Vq hr (za 3 (pv 3)) (za 6 (pv 6)) (za 7 (pv 7))) zp))))
  (zI (xC (v7 hr (Vo T.len (ze (za 3 (pv 3)) zp)) zh) (zI (vk (sL (za 4 (pv 4)) (xc (ze (za 5 (pv 5)) (ze (qO T.max (ze (dX hr (za 3 (pv 3)) zh) (ze (dX hr (za 3 (pv 3)) zh) zp))) zp)))))) xB))))
  (zI (yh (zU ux (hr.mono (by decide)) (ze (za 4 (pv 4)) zp)))))))),
  (zF (yc 2 ((zt good_add ((u4 (sN (zl 0)) (vm 0) rM ((xf (zj (zt zH (zl 0) ((zi _)).fr) (zj ((zi _)).fe (zj (zt zH (zl 0) ((zi _)).fr) zy))))).fe)).fr ((u4 (sN (zl 1)) (vm 0) rM ((xf (zj (zt zH (zl 0) ((zi _)).fr) (zj ((zi _)).fe (zj (zt zH (zl 0) ((zi _)).fr) zy))))).fe)).fr)).fe)
  (zF (VS 3)
  (zF (uc 4 (xV zy))
  (zF (vl (tG ((y4 bz (zV (zl 2) yi))).fe) (i4 (rL (xU 5) (rL (xU 6) (rL (xU 7) i3)))) (zF (VR 3 (zl 6) ((y4 hZ (zV (zl 7) (zV ((Uz 3 (zl 6) (zw 7))).er yi)))).fe)
  (xE (yQ (zt wo ((Uy 3)).fr ((zi _)).fr).fr) (sM 4 ((xf (zj (zw 5) (zj ((y4 ph (zV ((cq 3 ((zi _)).fr)).er (zV ((cq 3 ((zi _)).fr)).er yi)))).fe zy)))).fe) xD)))
  (cm 4 (yq (zW (zj (zw 4) zy))))))))⟩
theorem Ux (F:Fy K mg "either" jH) (ux:mF P w K mg base):ZC P w K mg base:=
 yI (k:=1) F Xu rfl (λ _ _ _ _ _ _=>vf λ _ _=>rfl) λ f cdv A outer s H E hr=>⟨_,
  (zI (yh (zU ux (hr.mono (by decide)) (ze (we (l7 T.list (ze (za 0 (pv 0)) zp)) (l7 T.list (ze (za 1 (pv 1)) zp))) zp)))),
  (yq (zW (zj ((zt good_add ((y4 lX (zV (zl 0) yi))).fr ((y4 lX (zV (zl 1) yi))).fr)).fe zy)))⟩
theorem U8 (F:Fy K mg "border_ahead_of_way" om) (ux:mF P w K mg base) (pJ:fO P w K mg base):ZH P w K mg base:=
 yI (k:=1) F eW rfl (λ _ _ _ _ _ _=>qe λ _ _ _=>rfl) λ f cdv A outer s H E hr=>⟨_,
  (zD (l4 (i:=3) (N':=["pair","way"]) (pick:=[none,some 1]) (uD (N:=["brims","way","border","pairs"]) (esc:=zJ om)) rfl (wA (za 2 (pv 2))) (λ _ _ _ _ _=>(yF 0 (by decide +kernel:List.Nodup (α:=Str) ["pair","way"]))) (λ _ _ _ _ _=>rF) (λ _ _ _ _ _=>(xc (ze (qO T.max (ze zh (ze (tE (zG (za 0 (pv 0)) zh) (zG (za 1 (pv 1)) zh)) zp))) (ze (qO T.max (ze zh (ze (tE (zG (za 0 (pv 0)) zh) (zG (za 1 (pv 1)) zh)) zp))) zp)))) eW.nd rfl (by first | exact Or.inl rfl | exact Or.inr rfl))
  (zI (yh (zU ux (hr.mono (by decide)) (ze (rG (N':=["pair","brims"]) (pick:=[none,some 0]) (uD (N:=["brims","way","border","pairs"]) (esc:=zJ om)) rfl (wA (za 3 (pv 3))) (λ _ _ _ _ _=>(yF 0 (by decide +kernel:List.Nodup (α:=Str) ["pair","brims"]))) (λ _ _ _ _ _=>l5 (tD (zU pJ (hr.mono (by decide)) (ze (za 1 (pv 1)) (ze (za 0 (pv 0)) zp))))) (λ _ _ _ _ _=>(za 0 (pv 0)))) zp))))),
  (zF (yc 3 ((u4 (sN (zl 2)) (vm 0) rM ((xf (zj ((y4 ph (zV ((zi _)).fr (zV ((tI ((zt zH (zl 0) ((zi _)).fr)).er ((zt zH (zl 1) ((zi _)).fr)).er)).fr yi)))).fe (zj ((y4 ph (zV ((zi _)).fr (zV ((tI ((zt zH (zl 0) ((zi _)).fr)).er ((zt zH (zl 1) ((zi _)).fr)).er)).fr yi)))).fe zy)))).fe)).fe)
  (yq (zW (zj ((u4 (sN (zl 3)) (vm 0) (tH ((zW (zj (zw 1) (zj (zw 0) zy)))).fr) (zw 0))).fe zy))))⟩
theorem Um (F:Fy K mg "_law_brims" jB) (xr:rm P w K mg base):Z5 P w K mg base:=
 yI (k:=1) F jv rfl (λ _ _ _ _ _ _=>vf λ _ _=>rfl) λ f cdv A outer s H E hr=>⟨_,
  (zD (zR 2 jv.nd (zU xr (hr.mono (by decide)) (ze (za 0 (pv 0)) (ze zh zp))))
  (zD (zR 3 jv.nd (xT (ze (zG (xT (ze zh (ze zh (ze zh (ze zh (ze zh (ze zh (ze zh (ze zh zp))))))))) (yy (za 2 (pv 2)) zh)) (ze (zG (xT (ze zh (ze zh (ze zh (ze zh (ze zh (ze zh (ze zh (ze zh zp))))))))) (yy (xv (za 2 (pv 2)) zh) zh)) zp))))
  (zD (xC (ly (za 1 (pv 1)) zh) (zI (yh (xc (ze (ir T.min (ze (zG (za 3 (pv 3)) zh) (ze zh zp))) (ze (ir T.min (ze (zG (za 3 (pv 3)) zh) (ze zh zp))) zp))))) xB)
  (zD (xC (v7 hr (yy (xv (za 2 (pv 2)) zh) zh) zh) (zI (yh (xc (ze zh (ze (yy (zG (za 3 (pv 3)) zh) zh) zp))))) xB)
  (zD (xC (v7 hr (yy (xv (za 2 (pv 2)) zh) zh) zh) (zI (yh (xc (ze (yy (zG (za 3 (pv 3)) zh) zh) (ze zh zp))))) xB)
  (zD (xC (wy.pt (o9 (v7 hr (yy (xv (za 2 (pv 2)) zh) zh) zh) (o8 (lx hr (za 1 (pv 1)) zh)))) (zI (yh (xc (ze zh (ze zh zp))))) xB)
  (zI (yh (oB T.tuple (ze (za 3 (pv 3)) zp)))))))))),
  (zF (yc 2 ((zW (zj (zw 0) (zj ((zi _)).fe zy)))).fe)
  (zF (yc 3 ((xV (zj (zt zH ((xV (zj ((zi _)).fe (zj ((zi _)).fe (zj ((zi _)).fe (zj ((zi _)).fe (zj ((zi _)).fe (zj ((zi _)).fe (zj ((zi _)).fe (zj ((zi _)).fe zy)))))))))).fr ((yz (zl 2) ((zi _)).fr)).fr) (zj (zt zH ((xV (zj ((zi _)).fe (zj ((zi _)).fe (zj ((zi _)).fe (zj ((zi _)).fe (zj ((zi _)).fe (zj ((zi _)).fe (zj ((zi _)).fe (zj ((zi _)).fe zy)))))))))).fr ((yz ((xw (zl 2) ((zi _)).fr)).fr ((zi _)).fr)).fr) zy)))).fe)
  (zF (xE (yQ (lG (zl 1) ((zi _)).fr).fr) (yq (xf (zj ((y4 hZ (zV ((zt zH (zl 3) ((zi _)).fr)).er (zV ((zi _)).fr yi)))).fe (zj ((y4 hZ (zV ((zt zH (zl 3) ((zi _)).fr)).er (zV ((zi _)).fr yi)))).fe zy)))) xD)
  (zF (xE (yQ (zt wo ((yz ((xw (zl 2) ((zi _)).fr)).fr ((zi _)).fr)).fr ((zi _)).fr).fr) (yq (xf (zj ((zi _)).fe (zj ((yz ((zt zH (zl 3) ((zi _)).fr)).er ((zi _)).fr)).fe zy)))) xD)
  (zF (xE (yQ (zt wo ((yz ((xw (zl 2) ((zi _)).fr)).fr ((zi _)).fr)).fr ((zi _)).fr).fr) (yq (xf (zj ((yz ((zt zH (zl 3) ((zi _)).fr)).er ((zi _)).fr)).fe (zj ((zi _)).fe zy)))) xD)
  (zF (xE (oO (yQ (zt wo ((yz ((xw (zl 2) ((zi _)).fr)).fr ((zi _)).fr)).fr ((zi _)).fr).fr) (yQ (zt nr (zl 1) ((zi _)).fr).fr)) (yq (xf (zj ((zi _)).fe (zj ((zi _)).fe zy)))) xD)
  (yq (y4 nq (zV (zl 3) yi)))))))))⟩
theorem Uh (F:Fy K mg "_law_owners" j6) (xr:rm P w K mg base):Zy P w K mg base:=
 yI (k:=1) F og rfl (λ _ _ _ _ _ _=>vf λ _ _=>rfl) λ f cdv A outer s H E hr=>⟨_,
  (zD (zR 2 og.nd (zU xr (hr.mono (by decide)) (ze (za 0 (pv 0)) (ze zh zp))))
  (zD (zR 3 og.nd (xT zp))
  (zD (vj PassesOwn.never rfl (oA T.range (ze (za 1 (pv 1)) zp)) (yF 4 og.nd) (zD (vk (sL (za 3 (pv 3)) (zG (xT (ze ip (ze ip zp))) (yy (za 2 (pv 2)) zh))))
  (zI (zR 2 og.nd (xv (za 2 (pv 2)) zh)))))
  (zI (yh (oB T.tuple (ze (za 3 (pv 3)) zp))))))),
  (zF (yc 2 ((zW (zj (zw 0) (zj ((zi _)).fe zy)))).fe)
  (zF (uc 3 (xV zy))
  (zF (vl (oJ (b:=true) (zV (zl 1) yi)) (xU 4) (zF (sM 3 (zt zH ((xV (zj ((lE _)).fe (zj ((lE _)).fe zy)))).fr ((yz (zl 2) ((zi _)).fr)).fr))
  (yc 2 ((xw (zl 2) ((zi _)).fr)).fe)))
  (yq (y4 nq (zV (zl 3) yi))))))⟩
theorem Ue (F:Fy K mg "_law_ways" j4) (xr:rm P w K mg base) (kN:Z4 P w K mg base):Zw P w K mg base:=
 yI (k:=1) F vW rfl (λ _ _ _ _ _ _=>vf λ _ _=>rfl) λ f cdv A outer s H E hr=>⟨_,
  (zD (zR 2 vW.nd (zU xr (hr.mono (by decide)) (ze (za 0 (pv 0)) (ze zh zp))))
  (zD (zR 3 vW.nd (zG (xT (ze zh (ze zh zp))) (Vj T.int (ze (Ve hr (za 1 (pv 1)) zh) zp))))
  (zD (zR 4 vW.nd (xT zp))
  (zD (vj PassesOwn.never rfl (oA T.range (ze (za 1 (pv 1)) zp)) (yF 5 vW.nd) (zD (zR 6 vW.nd (we zh (yy (za 2 (pv 2)) zh)))
  (zD (xC (wy.pt (o9 (lx hr (za 1 (pv 1)) zh) (o8 (v7 hr (yy (xv (za 2 (pv 2)) zh) zh) zh)))) (zI (zR 6 vW.nd (we zh (za 6 (pv 6))))) xB)
  (zD (vj PassesOwn.never rfl (oA T.range (ze (za 6 (pv 6)) zp)) (yF 7 vW.nd) (zD (zR 8 vW.nd (we (qN (za 3 (pv 3)) (za 5 (pv 5))) (za 7 (pv 7))))
  (zD (zR 9 vW.nd (yy (we (we (qN (zU xr (hr.mono (by decide)) (ze (za 0 (pv 0)) (ze (we zh (za 8 (pv 8))) zp))) zh) (qN zh (za 8 (pv 8)))) zh) zh))
  (zD (zR 10 vW.nd (xv (za 9 (pv 9)) zh))
  (zI (vk (sL (za 4 (pv 4)) (xc (ze (za 5 (pv 5)) (ze (yy (yy (za 9 (pv 9)) zh) (za 1 (pv 1))) (ze (zU kN (hr.mono (by decide)) (ze (za 10 (pv 10)) zp)) (ze (zU kN (hr.mono (by decide)) (ze (xv (za 10 (pv 10)) zh) zp)) zp))))))))))))
  (zI (zR 2 vW.nd (xv (za 2 (pv 2)) zh)))))))
  (zI (yh (oB T.tuple (ze (dQ hr T.sorted U.set (ze (za 4 (pv 4)) zp)) zp)))))))),
  (zF (yc 2 ((zW (zj (zw 0) (zj ((zi _)).fe zy)))).fe)
  (zF (yc 3 (zt zH ((xV (zj ((zi _)).fe (zj ((zi _)).fe zy)))).fr ((y4 good_int (zV ((zt nr (zl 1) ((zi _)).fr)).fr yi))).fr))
  (zF (uc 4 (xV zy))
  (zF (vl (oJ (b:=true) (zV (zl 1) yi)) (xU 5) (zF (yc 6 ((zt good_add ((zi _)).fr ((yz (zl 2) ((zi _)).fr)).fr)).fe)
  (zF (xE (oO (yQ (zt nr (zl 1) ((zi _)).fr).fr) (yQ (zt wo ((yz ((xw (zl 2) ((zi _)).fr)).fr ((zi _)).fr)).fr ((zi _)).fr).fr)) (yc 6 ((zt good_add ((zi _)).fr (zl 6))).fe) xD)
  (zF (vl (oJ (b:=true) (zV (zl 6) yi)) (xU 7) (zF (yc 8 ((zt good_add ((zt pd (zl 3) (zl 5))).fr (zl 7))).fe)
  (zF (yc 9 ((yz ((zt good_add ((zt good_add ((zt pd ((zW (zj (zw 0) (zj ((zt good_add ((zi _)).fr (zl 8))).fe zy)))).fr ((zi _)).fr)).fr ((zt pd ((zi _)).fr (zl 8))).fr)).fr ((zi _)).fr)).fr ((zi _)).fr)).fe)
  (zF (yc 10 ((xw (zl 9) ((zi _)).fr)).fe)
  (sM 4 ((xf (zj (zw 5) (zj ((yz ((yz (zl 9) ((zi _)).fr)).fr (zl 1))).fe (zj ((zW (zj (zw 10) zy))).fe (zj ((zW (zj ((xw (zl 10) ((zi _)).fr)).fe zy))).fe zy)))))).fe)))))
  (yc 2 ((xw (zl 2) ((zi _)).fr)).fe)))))
  (yq (y4 nq (zV ((y4 bx (zV (zl 4) yi))).fr yi)))))))⟩
theorem Ug (F:Fy K mg "_law_stalls" j5) (xr:rm P w K mg base):Zx P w K mg base:=
 yI (k:=1) F rC rfl (λ _ _ _ _ _ _=>vf λ _ _=>rfl) λ f cdv A outer s H E hr=>⟨_,
  (zD (zR 2 rC.nd (xT zp))
  (zD (vj PassesOwn.never rfl (oA T.range (ze (uR T.len (ze (za 1 (pv 1)) zp)) zp)) (yF 3 rC.nd) (zD (zR 4 rC.nd (yy (we (we (qN (zU xr (hr.mono (by decide)) (ze (za 0 (pv 0)) (ze (we zh (za 3 (pv 3))) zp))) zh) (qN zh (za 3 (pv 3)))) zh) zh))
  (zI (xC (wy.pt (o9 (v7 hr (zG (za 1 (pv 1)) (za 3 (pv 3))) ip) (o8 (v7 hr (yy (za 4 (pv 4)) zh) zh)))) (zD (zR 5 rC.nd (xv (za 4 (pv 4)) zh))
  (zD (zR 6 rC.nd (we zh (zG (xT (ze (yy (za 5 (pv 5)) zh) (ze (yy (za 5 (pv 5)) zh) (ze (yy (za 5 (pv 5)) zh) zp)))) (yy (xv (za 5 (pv 5)) zh) zh))))
  (zD (zR 7 rC.nd (zG (xT (ze (yy (xv (za 5 (pv 5)) zh) zh) (ze (yy (xv (za 5 (pv 5)) zh) zh) (ze (yy (xv (za 5 (pv 5)) zh) zh) zp)))) (yy (xv (za 5 (pv 5)) zh) zh)))
  (zI (vk (sL (za 2 (pv 2)) (xc (ze (za 3 (pv 3)) (ze (yy (xv (za 4 (pv 4)) zh) zh) (ze (za 6 (pv 6)) (ze (za 7 (pv 7)) zp))))))))))) xB))))
  (zI (yh (oB T.tuple (ze (za 2 (pv 2)) zp)))))),
  (zF (uc 2 (xV zy))
  (zF (vl (oJ (b:=true) (zV ((y4 uV (zV (zl 1) yi))).fr yi)) (xU 3) (zF (yc 4 ((yz ((zt good_add ((zt good_add ((zt pd ((zW (zj (zw 0) (zj ((zt good_add ((zi _)).fr (zl 3))).fe zy)))).fr ((zi _)).fr)).fr ((zt pd ((zi _)).fr (zl 3))).fr)).fr ((zi _)).fr)).fr ((zi _)).fr)).fe)
  (xE (oO (yQ (zt wo ((zt zH (zl 1) (zl 3))).er ((lE _)).fr).fr) (yQ (zt wo ((yz (zl 4) ((zi _)).fr)).fr ((zi _)).fr).fr)) (zF (yc 5 ((xw (zl 4) ((zi _)).fr)).fe)
  (zF (yc 6 ((zt good_add ((zi _)).fr ((zt zH ((xV (zj ((yz (zl 5) ((zi _)).fr)).fe (zj ((yz (zl 5) ((zi _)).fr)).fe (zj ((yz (zl 5) ((zi _)).fr)).fe zy))))).fr ((yz ((xw (zl 5) ((zi _)).fr)).fr ((zi _)).fr)).fr)).er)).fe)
  (zF (yc 7 (zt zH ((xV (zj ((yz ((xw (zl 5) ((zi _)).fr)).fr ((zi _)).fr)).fe (zj ((yz ((xw (zl 5) ((zi _)).fr)).fr ((zi _)).fr)).fe (zj ((yz ((xw (zl 5) ((zi _)).fr)).fr ((zi _)).fr)).fe zy))))).fr ((yz ((xw (zl 5) ((zi _)).fr)).fr ((zi _)).fr)).fr))
  (sM 2 ((xf (zj (zw 3) (zj ((yz ((xw (zl 4) ((zi _)).fr)).fr ((zi _)).fr)).fe (zj (zw 6) (zj (zw 7) zy)))))).fe)))) xD)))
  (yq (y4 nq (zV (zl 2) yi)))))⟩
theorem Uo (F:Fy K mg "_law_asked" jC) (xr:rm P w K mg base):Z6 P w K mg base:=
 yI (k:=1) F sF rfl (λ _ _ _ _ _ _=>Qo λ _ _ _ _=>rfl) λ f cdv A outer s H E hr=>⟨_,
  (zD (zR 4 sF.nd (xT (ze (xc (ze zh (ze zh zp))) (ze (zG (za 1 (pv 1)) zh) zp))))
  (zD (vj PassesOwn.never rfl (oA T.range (ze (yy (zU xr (hr.mono (by decide)) (ze (za 0 (pv 0)) (ze zh zp))) zh) zp)) (yF 5 sF.nd) (zD (zR 6 sF.nd (zU xr (hr.mono (by decide)) (ze (za 0 (pv 0)) (ze (we zh (za 5 (pv 5))) zp))))
  (zI (vk (sL (za 4 (pv 4)) (xc (ze (yy (za 6 (pv 6)) (we (zG (zG (za 1 (pv 1)) zh) zh) zh)) (ze (yy (xv (za 6 (pv 6)) zh) (we (zG (zG (za 1 (pv 1)) zh) zh) zh)) zp))))))))
  (zD (zR 7 sF.nd (xv (zU xr (hr.mono (by decide)) (ze (za 0 (pv 0)) (ze zh zp))) zh))
  (zD (xC (ly (uR T.len (ze (za 3 (pv 3)) zp)) zh) (zD (WW (zG (za 3 (pv 3)) (yy (xv (za 7 (pv 7)) zh) (uR T.len (ze (za 3 (pv 3)) zp)))) (qL (n:=2) (v8 (yF 8 sF.nd) (v8 (yF 9 sF.nd) qK))))
  (zI (zR 4 sF.nd (we (za 4 (pv 4)) (xT (ze (xc (ze (za 8 (pv 8)) (ze (za 9 (pv 9)) zp))) (ze (xc (ze (qO T.max (ze zh (ze (tE (za 8 (pv 8)) zh) zp))) (ze (za 9 (pv 9)) zp))) (ze (xc (ze (za 8 (pv 8)) (ze (qO T.max (ze zh (ze (tE (za 9 (pv 9)) zh) zp))) zp))) zp)))))))) xB)
  (zI (yh (za 4 (pv 4)))))))),
  (zF (uc 4 (xV (zj ((xf (zj ((zi _)).fe (zj ((zi _)).fe zy)))).fe (zj (zt zH (zl 1) ((zi _)).fr) zy))))
  (zF (vl (oJ (b:=true) (zV ((yz ((zW (zj (zw 0) (zj ((zi _)).fe zy)))).fr ((zi _)).fr)).fr yi)) (xU 5) (zF (yc 6 ((zW (zj (zw 0) (zj ((zt good_add ((zi _)).fr (zl 5))).fe zy)))).fe)
  (sM 4 ((xf (zj ((yz (zl 6) ((zt good_add ((zt zH ((zt zH (zl 1) ((zi _)).fr)).er ((zi _)).fr)).er ((zi _)).fr)).fr)).fe (zj ((yz ((xw (zl 6) ((zi _)).fr)).fr ((zt good_add ((zt zH ((zt zH (zl 1) ((zi _)).fr)).er ((zi _)).fr)).er ((zi _)).fr)).fr)).fe zy)))).fe)))
  (zF (yc 7 ((xw ((zW (zj (zw 0) (zj ((zi _)).fe zy)))).fr ((zi _)).fr)).fe)
  (zF (xE (yQ (lG ((y4 uV (zV (zl 3) yi))).fr ((zi _)).fr).fr) (zF (VO (zt zH (zl 3) ((yz ((xw (zl 7) ((zi _)).fr)).fr ((y4 uV (zV (zl 3) yi))).fr)).fr) (i4 (rL (xU 8) (rL (xU 9) i3))))
  (uc 4 (zt good_add (zl 4) ((xV (zj ((xf (zj (zw 8) (zj (zw 9) zy)))).fe (zj ((xf (zj ((y4 ph (zV ((zi _)).fr (zV ((tI (zl 8) ((zi _)).fr)).fr yi)))).fe (zj (zw 9) zy)))).fe (zj ((xf (zj (zw 8) (zj ((y4 ph (zV ((zi _)).fr (zV ((tI (zl 9) ((zi _)).fr)).fr yi)))).fe zy)))).fe zy))))).fr))) xD)
  (lC 4)))))⟩
theorem Ut (F:Fy K mg "is_row_within" lg) (pH:fM P w K mg base):Z8 P w K mg base:=
 yI (k:=2) F Xr rfl (λ _ _ _ _ _ _=>vf λ _ _=>rfl) λ f cdv A outer s H E hr=>⟨_,
  (zD (xC (wy.pt (o7 (qJ (tD (Vg T (za 0 (pv 0))))) (o6 (lu hr (uR T.len (ze (za 0 (pv 0)) zp)) (uR T.len (ze (za 1 (pv 1)) zp)))))) (zI (yh oE)) xB)
  (zI (yh (Vx T.all (ze (rG (N':=["number","bound"]) (pick:=[none,none]) (uD (N:=["thing","bounds"]) (esc:=zJ lg)) rfl (WX U.zip (ze (za 0 (pv 0)) (ze (za 1 (pv 1)) zp))) (λ _ _ _ _ _=>(qL (n:=2) (v8 (yF 0 (by decide +kernel:List.Nodup (α:=Str) ["number","bound"])) (v8 (yF 1 (by decide +kernel:List.Nodup (α:=Str) ["number","bound"])) qK)))) (λ _ _ _ _ _=>rF) (λ _ _ _ _ _=>(zU pH (hr.mono (by decide)) (ze (za 0 (pv 0)) (ze (zG (za 1 (pv 1)) zh) (ze (zG (za 1 (pv 1)) zh) zp)))))) zp))))),
  (zF (xE (oM (qR (tH ((oK (zl 0))).fr)) (yQ (zt wo ((y4 uV (zV (zl 0) yi))).fr ((y4 uV (zV (zl 1) yi))).fr).fr)) (yq (oP _)) xD)
  (yq (y4 b8 (zV ((u4 (VT (zV (zl 0) (zV (zl 1) yi))) (i6 (qQ (vm 0) (qQ (vm 1) i5))) rM ((zW (zj (zw 0) (zj (zt zH (zl 1) ((zi _)).fr) (zj (zt zH (zl 1) ((zi _)).fr) zy))))).fe)).fr yi))))⟩
theorem U0 (F:Fy K mg "check_place" jI) (pH:fM P w K mg base) (qo:fL P w K mg base):kS P w K mg base:=
 yI (k:=2) F Xv rfl (λ _ _ _ _ _ _=>vf λ _ _=>rfl) λ f cdv A outer s H E hr=>⟨_,
  (zI (xC (qJ (tD (zU pH (hr.mono (by decide)) (ze (za 1 (pv 1)) (ze zh (ze (tE (zU qo (hr.mono (by decide)) (ze (za 0 (pv 0)) zp)) zh) zp)))))) (zI dN) xB)),
  (xE (qR (tH ((zW (zj (zw 1) (zj ((zi _)).fe (zj ((tI ((zW (zj (zw 0) zy))).fr ((zi _)).fr)).fe zy))))).fr)) ck xD)⟩
theorem U6 (F:Fy K mg "border_of_either" jL) (fA:ZC P w K mg base):ZF P w K mg base:=
 yI (k:=2) F mW rfl (λ _ _ _ _ _ _=>tT λ _=>rfl) λ f cdv A outer s H E hr=>⟨_,
  (zD (zR 1 mW.nd (xc zp))
  (zD (vj PassesOwn.never rfl (wA (za 0 (pv 0))) (yF 2 mW.nd) (zI (zR 1 mW.nd (zU fA (hr.mono (by decide)) (ze (za 1 (pv 1)) (ze (za 2 (pv 2)) zp))))))
  (zI (yh (za 1 (pv 1)))))),
  (zF (yc 1 ((xf zy)).fe)
  (zF (vl (tG (zw 0)) (xU 2) (yc 1 ((zW (zj (zw 1) (zj (zw 2) zy)))).fe))
  (yq (zw 1))))⟩
theorem U7 (F:Fy K mg "border_of_all" jM) (fC:ZE P w K mg base):ZG P w K mg base:=
 yI (k:=2) F mX rfl (λ _ _ _ _ _ _=>tT λ _=>rfl) λ f cdv A outer s H E hr=>⟨_,
  (zD (zR 1 mX.nd (xc (ze (xc (ze zh (ze zh zp))) zp)))
  (zD (vj PassesOwn.never rfl (wA (za 0 (pv 0))) (yF 2 mX.nd) (zI (zR 1 mX.nd (zU fC (hr.mono (by decide)) (ze (za 1 (pv 1)) (ze (za 2 (pv 2)) zp))))))
  (zI (yh (za 1 (pv 1)))))),
  (zF (yc 1 ((xf (zj ((xf (zj ((zi _)).fe (zj ((zi _)).fe zy)))).fe zy))).fe)
  (zF (vl (tG (zw 0)) (xU 2) (yc 1 ((zW (zj (zw 1) (zj (zw 2) zy)))).fe))
  (yq (zw 1))))⟩
theorem Uj (F:Fy K mg "_law_floor" j8) (xr:rm P w K mg base) (fm:Zy P w K mg base) (fw:Z5 P w K mg base) (fj:Zw P w K mg base) (fk:Zx P w K mg base):Z2 P w K mg base:=
 yI (k:=2) F sE rfl (λ _ _ _ _ _ _=>tT λ _=>rfl) λ f cdv A outer s H E hr=>⟨_,
  (zD (zR 1 sE.nd (zU xr (hr.mono (by decide)) (ze (za 0 (pv 0)) (ze zh zp))))
  (zD (zR 2 sE.nd (zG (xT (ze zh (ze zh (ze zh (ze zh (ze zh (ze zh (ze zh (ze (we zh (yy (xv (za 1 (pv 1)) zh) zh)) zp))))))))) (yy (za 1 (pv 1)) zh)))
  (zD (zR 3 sE.nd (zU fm (hr.mono (by decide)) (ze (za 0 (pv 0)) (ze (za 2 (pv 2)) zp))))
  (zD (zR 4 sE.nd (zU fw (hr.mono (by decide)) (ze (za 0 (pv 0)) (ze (za 2 (pv 2)) zp))))
  (zD (zR 5 sE.nd (zU fj (hr.mono (by decide)) (ze (za 0 (pv 0)) (ze (za 2 (pv 2)) zp))))
  (zD (zR 6 sE.nd (zU fk (hr.mono (by decide)) (ze (za 0 (pv 0)) (ze (za 3 (pv 3)) zp))))
  (zD (xC (wy.pt (o9 (v7 hr (za 4 (pv 4)) (xc (ze zh (ze zh zp)))) (o8 (wy.pt (o7 (ly (uR T.len (ze (za 5 (pv 5)) zp)) zh) (o6 (ly (uR T.len (ze (za 6 (pv 6)) zp)) zh))))))) (zI (zR 4 sE.nd (xc (ze zh (ze zh zp))))) xB)
  (zI (yh (xc (ze (za 4 (pv 4)) (ze (za 3 (pv 3)) (ze (za 5 (pv 5)) (ze (za 6 (pv 6)) zp)))))))))))))),
  (zF (yc 1 ((zW (zj (zw 0) (zj ((zi _)).fe zy)))).fe)
  (zF (yc 2 (zt zH ((xV (zj ((zi _)).fe (zj ((zi _)).fe (zj ((zi _)).fe (zj ((zi _)).fe (zj ((zi _)).fe (zj ((zi _)).fe (zj ((zi _)).fe (zj ((zt good_add ((zi _)).fr ((yz ((xw (zl 1) ((zi _)).fr)).fr ((zi _)).fr)).fr)).fe zy)))))))))).fr ((yz (zl 1) ((zi _)).fr)).fr))
  (zF (yc 3 ((zW (zj (zw 0) (zj (zw 2) zy)))).fe)
  (zF (yc 4 ((zW (zj (zw 0) (zj (zw 2) zy)))).fe)
  (zF (yc 5 ((zW (zj (zw 0) (zj (zw 2) zy)))).fe)
  (zF (yc 6 ((zW (zj (zw 0) (zj (zw 3) zy)))).fe)
  (zF (xE (oO (yQ (zt wo (zl 4) ((xf (zj ((zi _)).fe (zj ((zi _)).fe zy)))).fr).fr) (oM (yQ (lG ((y4 uV (zV (zl 5) yi))).fr ((zi _)).fr).fr) (yQ (lG ((y4 uV (zV (zl 6) yi))).fr ((zi _)).fr).fr))) (yc 4 ((xf (zj ((zi _)).fe (zj ((zi _)).fe zy)))).fe) xD)
  (yq (xf (zj (zw 4) (zj (zw 3) (zj (zw 5) (zj (zw 6) zy)))))))))))))⟩
theorem U1 (F:Fy K mg "check_pair" jJ) (f6:Z8 P w K mg base):ZD P w K mg base:=
 yI (k:=3) F Xw rfl (λ _ _ _ _ _ _=>vf λ _ _=>rfl) λ f cdv A outer s H E hr=>⟨_,
  (zI (xC (qJ (tD (zU f6 (hr.mono (by decide)) (ze (za 1 (pv 1)) (ze (xc (ze (xc (ze zh (ze (zG (zG (za 0 (pv 0)) zh) zh) zp))) (ze (xc (ze zh (ze (zG (zG (za 0 (pv 0)) zh) zh) zp))) zp))) zp))))) (zI dN) xB)),
  (xE (qR (tH ((zW (zj (zw 1) (zj ((xf (zj ((xf (zj ((zi _)).fe (zj (zt zH ((zt zH (zl 0) ((zi _)).fr)).er ((zi _)).fr) zy)))).fe (zj ((xf (zj ((zi _)).fe (zj (zt zH ((zt zH (zl 0) ((zi _)).fr)).er ((zi _)).fr) zy)))).fe zy)))).fe zy)))).fr)) ck xD)⟩
theorem VU (F:Fy K mg "ways_from" mZ) (sa:kS P w K mg base):Zr P w K mg base:=
 yI (k:=3) F Xl rfl (λ _ _ _ _ _ _=>vf λ _ _=>rfl) λ f cdv A outer s H E hr=>⟨_,
  (zD (vk (zU sa (hr.mono (by decide)) (ze (za 0 (pv 0)) (ze (za 1 (pv 1)) zp))))
  (zI (yh (rG (N':=["number","way","place"]) (pick:=[none,none,some 1]) (uD (N:=["floor","place"]) (esc:=zJ mZ)) rfl (dP U.enumerate (ze (zG (za 0 (pv 0)) zh) zp)) (λ _ _ _ _ _=>(qL (n:=2) (v8 (yF 0 (by decide +kernel:List.Nodup (α:=Str) ["number","way","place"])) (v8 (yF 1 (by decide +kernel:List.Nodup (α:=Str) ["number","way","place"])) qK)))) (λ _ _ _ _ _=>l5 (v7 hr (zG (za 1 (pv 1)) zh) (za 2 (pv 2)))) (λ _ _ _ _ _=>(za 0 (pv 0))))))),
  (zF (lD ((zW (zj (zw 0) (zj (zw 1) zy)))).fr)
  (yq (u4 (cn (zV ((zt zH (zl 0) ((zi _)).fr)).er yi)) (i6 (qQ (vm 0) (qQ (vm 1) i5))) (yQ (zt wo ((zt zH (zl 1) ((zi _)).fr)).er (zl 2)).fr) (zw 0))))⟩
theorem VV (F:Fy K mg "stall_at" jw) (sa:kS P w K mg base):Zs P w K mg base:=
 yI (k:=3) F eV rfl (λ _ _ _ _ _ _=>vf λ _ _=>rfl) λ f cdv A outer s H E hr=>⟨_,
  (zD (vk (zU sa (hr.mono (by decide)) (ze (za 0 (pv 0)) (ze (za 1 (pv 1)) zp))))
  (zD (vj PassesOwn.never rfl (wA (zG (za 0 (pv 0)) zh)) (yF 2 eV.nd) (zI (xC (v7 hr (zG (za 2 (pv 2)) zh) (za 1 (pv 1))) (zI (yh (za 2 (pv 2)))) xB)))
  (zI (yh dS)))),
  (zF (lD ((zW (zj (zw 0) (zj (zw 1) zy)))).fr)
  (zF (vl (tG (zt zH (zl 0) ((zi _)).fr)) (xU 2) (xE (yQ (zt wo ((zt zH (zl 2) ((zi _)).fr)).er (zl 1)).fr) (yq (zw 2)) xD))
  (yq (cp).fe)))⟩
theorem U9 (F:Fy K mg "border_ahead_of_changes" jN) (gZ:Zs P w K mg base) (ux:mF P w K mg base) (g_:Zt P w K mg base):ZI P w K mg base:=
 yI (k:=4) F mY rfl (λ _ _ _ _ _ _=>qe λ _ _ _=>rfl) λ f cdv A outer s H E hr=>⟨_,
  (zD (zR 3 mY.nd (zU gZ (hr.mono (by decide)) (ze (za 0 (pv 0)) (ze (za 1 (pv 1)) zp))))
  (zD (xC (WR (za 3 (pv 3)) dS) (zI (yh (za 2 (pv 2)))) xB)
  (zD (zR 4 mY.nd (xT zp))
  (zD (vj PassesOwn.never rfl (wA (za 2 (pv 2))) (yF 5 mY.nd) (zI (vk (Vc (za 4 (pv 4)) (zU g_ (hr.mono (by decide)) (ze (zG (za 0 (pv 0)) zh) (ze (za 3 (pv 3)) (ze (za 5 (pv 5)) zp))))))))
  (zI (yh (zU ux (hr.mono (by decide)) (ze (za 4 (pv 4)) zp)))))))),
  (zF (yc 3 (zW (zj (zw 0) (zj (zw 1) zy))))
  (zF (xE (yQ (zt Sy (zl 3) (cp).fr).fr) (yq (zw 2)) xD)
  (zF (uc 4 (xV zy))
  (zF (vl (tG (zw 2)) (xU 5) (VQ 4 (zW (zj (zt zH (zl 0) ((zi _)).fr) (zj (zw 3) (zj (zw 5) zy))))))
  (cm 4 (yq ((zW (zj (zw 4) zy))).fe))))))⟩
theorem Ub {jc:Value}(F:Fy K mg "next_border" oh) (nA:mg "KEEPER"=some jc) (jV:L2.RelV (.str "keeper") jc) (fE:ZG P w K mg base) (fF:ZH P w K mg base) (fG:ZI P w K mg base) (gY:Zr P w K mg base) (fD:ZF P w K mg base):Zv P w K mg base:=
 yI (k:=5) F js rfl (λ _ _ _ _ _ _=>qe λ _ _ _=>rfl) λ f cdv A outer s H E hr=>⟨_,
  (zD (l4 (i:=3) (N':=["number","floor"]) (pick:=[none,some 0]) (uD (N:=["floor","place","last","ways","ahead"]) (esc:=zJ oh)) rfl (wA (zU gY (hr.mono (by decide)) (ze (za 0 (pv 0)) (ze (za 1 (pv 1)) zp)))) (λ _ _ _ _ _=>(yF 0 (by decide +kernel:List.Nodup (α:=Str) ["number","floor"]))) (λ _ _ _ _ _=>rF) (λ _ _ _ _ _=>(zG (zG (za 1 (pv 1)) zh) (za 0 (pv 0)))) js.nd rfl (by first | exact Or.inl rfl | exact Or.inr rfl))
  (zD (l4 (i:=4) (N':=["way","floor","last"]) (pick:=[none,some 0,some 2]) (uD (N:=["floor","place","last","ways","ahead"]) (esc:=zJ oh)) rfl (wA (za 3 (pv 3))) (λ _ _ _ _ _=>(yF 0 (by decide +kernel:List.Nodup (α:=Str) ["way","floor","last"]))) (λ _ _ _ _ _=>rF) (λ _ _ _ _ _=>(zU fF (hr.mono (by decide)) (ze (zG (za 1 (pv 1)) zh) (ze (za 0 (pv 0)) (ze (zG (za 2 (pv 2)) (zG (za 0 (pv 0)) zh)) zp))))) js.nd rfl (by first | exact Or.inl rfl | exact Or.inr rfl))
  (zD (xC (v7 hr (zG (zG (za 0 (pv 0)) zh) (za 1 (pv 1))) (Vl nA jV)) (zI (yh (zU fG (hr.mono (by decide)) (ze (za 0 (pv 0)) (ze (za 1 (pv 1)) (ze (zU fD (hr.mono (by decide)) (ze (za 4 (pv 4)) zp)) zp)))))) xB)
  (zI (yh (zU fE (hr.mono (by decide)) (ze (za 4 (pv 4)) zp))))))),
  (zF (yc 3 ((u4 (sN ((zW (zj (zw 0) (zj (zw 1) zy)))).fr) (vm 0) rM (zt zH ((zt zH (zl 1) ((zi _)).fr)).er (zl 0)))).fe)
  (zF (yc 4 ((u4 (sN (zl 3)) (vm 0) rM ((zW (zj (zt zH (zl 1) ((zi _)).fr) (zj (zw 0) (zj (zt zH (zl 2) ((zt zH (zl 0) ((zi _)).fr)).er) zy))))).fe)).fe)
  (zF (xE (yQ (zt wo ((zt zH ((zt zH (zl 0) ((zi _)).fr)).er (zl 1))).er ((lE _)).fr).fr) (yq (zW (zj (zw 0) (zj (zw 1) (zj (zW (zj (zw 4) zy)) zy))))) xD)
  (yq (zW (zj (zw 4) zy))))))⟩
theorem Ua (F:Fy K mg "next_round" lb) (fh:Zv P w K mg base):Zu P w K mg base:=
 yI (k:=6) F jr rfl (λ _ _ _ _ _ _=>qe λ _ _ _=>rfl) λ f cdv A outer s H E hr=>⟨_,
  (zD (zR 3 jr.nd (l7 T.list (ze (za 1 (pv 1)) zp)))
  (zD (vj PassesOwn.never rfl (wA (dQ hr T.sorted U.set (ze (rG (N':=["way","fresh"]) (pick:=[none,some 2]) (uD (N:=["floor","last","fresh","following","place"]) (esc:=zJ lb)) rfl (wA (zG (za 0 (pv 0)) zh)) (λ _ _ _ _ _=>(yF 0 (by decide +kernel:List.Nodup (α:=Str) ["way","fresh"]))) (λ _ _ _ _ _=>l5 (WS hr (zG (za 0 (pv 0)) zh) (za 1 (pv 1)))) (λ _ _ _ _ _=>(zG (za 0 (pv 0)) zh))) zp))) (yF 4 jr.nd) (zI (WU (za 3 (pv 3)) (za 4 (pv 4)) (zU fh (hr.mono (by decide)) (ze (za 0 (pv 0)) (ze (za 4 (pv 4)) (ze (za 1 (pv 1)) zp)))))))
  (zI (yh (za 3 (pv 3)))))),
  (zF (uc 3 (y4 lX (zV (zl 1) yi)))
  (zF (vl (tG ((y4 bx (zV ((u4 (sN ((zt zH (zl 0) ((zi _)).fr)).er) (vm 0) (yQ (zt Sz ((zt zH (zl 0) ((zi _)).fr)).er (zl 1)).fr) (zt zH (zl 0) ((zi _)).fr))).fr yi))).fe) (xU 4) (VP 3 (zl 4) (zW (zj (zw 0) (zj (zw 4) (zj (zw 1) zy))))))
  (lC 3)))⟩
theorem VW (F:Fy K mg "rounds" m_) (fg:Zu P w K mg base) (qo:fL P w K mg base):fK P w K mg base:=
 yI (k:=7) F qC rfl (λ _ _ _ _ _ _=>tT λ _=>rfl) λ f cdv A outer s H E hr=>⟨_,
  (zD (zR 1 qC.nd (xT (ze (qN (xT (ze (xc (ze (xc (ze zh (ze zh zp))) zp)) zp)) (zU qo (hr.mono (by decide)) (ze (za 0 (pv 0)) zp))) zp)))
  (zD (zR 2 qC.nd (Vf T.list T.range (ze (zU qo (hr.mono (by decide)) (ze (za 0 (pv 0)) zp)) zp)))
  (zD (dM PassesOwn.never (tD (za 2 (pv 2))) (zD (zR 3 qC.nd (zG (za 1 (pv 1)) (l6 zh)))
  (zD (zR 4 qC.nd (zU fg (hr.mono (by decide)) (ze (za 0 (pv 0)) (ze (za 3 (pv 3)) (ze (za 2 (pv 2)) zp)))))
  (zD (l4 (i:=2) (N':=["place","border","last"]) (pick:=[none,none,some 3]) (uD (N:=["floor","told","fresh","last","following"]) (esc:=zJ m_)) rfl (dP U.enumerate (ze (za 4 (pv 4)) zp)) (λ _ _ _ _ _=>(qL (n:=2) (v8 (yF 0 (by decide +kernel:List.Nodup (α:=Str) ["place","border","last"])) (v8 (yF 1 (by decide +kernel:List.Nodup (α:=Str) ["place","border","last"])) qK)))) (λ _ _ _ _ _=>l5 (lu hr (za 1 (pv 1)) (zG (za 2 (pv 2)) (za 0 (pv 0))))) (λ _ _ _ _ _=>(za 0 (pv 0))) qC.nd rfl (by first | exact Or.inl rfl | exact Or.inr rfl))
  (zI (xC (tD (za 2 (pv 2))) (zI (vk (sL (za 1 (pv 1)) (za 4 (pv 4))))) xB))))))
  (zI (yh (za 1 (pv 1))))))),
  (zF (uc 1 (xV (zj ((zt pd ((xV (zj ((xf (zj ((xf (zj ((zi _)).fe (zj ((zi _)).fe zy)))).fe zy))).fe zy))).fr ((zW (zj (zw 0) zy))).fr)).fe zy)))
  (zF (yc 2 ((y4 Sv (zV ((zW (zj (zw 0) zy))).fr yi))).fe)
  (zF (cj (tH (zl 2)) (zF (yc 3 (zt zH (zl 1) ((lF ((zi _)).fr)).fr))
  (zF (yc 4 ((zW (zj (zw 0) (zj (zw 3) (zj (zw 2) zy))))).fe)
  (zF (yc 2 ((u4 (cn (zV (zl 4) yi)) (i6 (qQ (vm 0) (qQ (vm 1) i5))) (yQ (zt wo (zl 1) ((zt zH (zl 2) (zl 0))).er).fr) (zw 0))).fe)
  (xE (tH (zl 2)) (sM 1 (zw 4)) xD)))))
  (lC 1))))⟩
theorem U5 (F:Fy K mg "borders" jK) (pG:fK P w K mg base):fN P w K mg base:=
 yI (k:=8) F Xx rfl (λ _ _ _ _ _ _=>tT λ _=>rfl) λ f cdv A outer s H E hr=>⟨_,
  (zI (yh (zG (zU pG (hr.mono (by decide)) (ze (za 0 (pv 0)) zp)) (l6 zh)))),
  (yq (zt zH ((zW (zj (zw 0) zy))).fr ((lF ((zi _)).fr)).fr))⟩
theorem Uw (F:Fy K mg "enough" jG) (sa:kS P w K mg base) (fB:ZD P w K mg base) (f7:Z9 P w K mg base) (qp:fN P w K mg base):ZA P w K mg base:=
 yI (k:=9) F Xt rfl (λ _ _ _ _ _ _=>qe λ _ _ _=>rfl) λ f cdv A outer s H E hr=>⟨_,
  (zD (vk (zU sa (hr.mono (by decide)) (ze (za 0 (pv 0)) (ze (za 1 (pv 1)) zp))))
  (zD (vk (zU fB (hr.mono (by decide)) (ze (za 0 (pv 0)) (ze (za 2 (pv 2)) zp))))
  (zI (yh (zU f7 (hr.mono (by decide)) (ze (zG (zU qp (hr.mono (by decide)) (ze (za 0 (pv 0)) zp)) (za 1 (pv 1))) (ze (za 2 (pv 2)) zp))))))),
  (zF (lD ((zW (zj (zw 0) (zj (zw 1) zy)))).fr)
  (zF (lD ((zW (zj (zw 0) (zj (zw 2) zy)))).fr)
  (yq (zW (zj (zt zH ((zW (zj (zw 0) zy))).er (zl 1)) (zj (zw 2) zy))))))⟩
theorem Uq {f:Addr}{fd:FuncData}(F:uz K "law" "law" jD f fd) (fu:Z2 P w K mg base) (qp:fN P w K mg base) (fx:Z6 P w K mg base) (f9:ZA P w K mg base) (xr:rm P w K mg base) (pG:fK P w K mg base) (fq:Zz P w K mg base):vU P w K mg base wX 11 f fd ["_law_script"] (uJ K (t6 pR)):=
 SG (k:=10) F rD rfl λ cdv A outer s H E hr=>⟨_,
  (zD (zR 1 rD.nd (zU fu (hr.mono (by decide)) (ze (za 0 (pv 0)) zp)))
  (zD (zR 2 rD.nd (zU qp (hr.mono (by decide)) (ze (za 1 (pv 1)) zp)))
  (zD (xC (wy.pt (o7 (qJ (tD (Vh T (za 2 (pv 2))))) (o6 (lu hr (za 2 (pv 2)) (zG (zU pG (hr.mono (by decide)) (ze (za 1 (pv 1)) zp)) (l6 zh)))))) (zI (yh oE)) xB)
  (zD (zR 3 rD.nd (yy (xv (zU xr (hr.mono (by decide)) (ze (za 0 (pv 0)) (ze zh zp))) zh) (uR T.len (ze (zG (za 1 (pv 1)) zh) zp))))
  (zD (vj PassesOwn.never rfl (wA (zU fx (hr.mono (by decide)) (ze (za 0 (pv 0)) (ze (za 1 (pv 1)) (ze (za 3 (pv 3)) (ze (zG (za 2 (pv 2)) (za 3 (pv 3))) zp)))))) (yF 4 rD.nd) (zD (zR 5 rD.nd (zU f9 (hr.mono (by decide)) (ze (za 1 (pv 1)) (ze (za 3 (pv 3)) (ze (za 4 (pv 4)) zp)))))
  (zI (xC (wy.pt (o7 (qJ (tD (dU T (za 5 (pv 5))))) (o6 (lu hr (za 5 (pv 5)) (zU fq (hr.mono (by decide)) (ze (zG (za 2 (pv 2)) (za 3 (pv 3))) (ze (za 4 (pv 4)) zp))))))) (zI (yh oE)) xB))))
  (zD (zR 6 rD.nd (l7 T.list (ze (za 2 (pv 2)) zp)))
  (zD (vk (Vd (za 2 (pv 2))))
  (zI (yh (Vn hr (zU qp (hr.mono (by decide)) (ze (za 1 (pv 1)) zp)) (za 6 (pv 6)))))))))))),
  (rK (yv.z (R:=zM) (yc 1 ((zW (zj (zw 0) zy))).fe))
  (rK (yv.z (R:=zM) (yc 2 (zW (zj (zw 1) zy))))
  (rK (yv.z (R:=zM) (xE (oM (qR (tH ((oK (zl 2))).fr)) (yQ (zt wo (zl 2) ((zt zH ((zW (zj (zw 1) zy))).fr ((lF ((zi _)).fr)).fr)).er).fr)) (yq (oP _)) xD))
  (rK (yv.z (R:=zM) (yc 3 ((yz ((xw ((zW (zj (zw 0) (zj ((zi _)).fe zy)))).fr ((zi _)).fr)).fr ((y4 uV (zV ((zt zH (zl 1) ((zi _)).fr)).er yi))).fr)).fe))
  (rK (yv.z (R:=zM) (vl (tG ((zW (zj (zw 0) (zj (zw 1) (zj (zw 3) (zj (zt zH (zl 2) (zl 3)) zy)))))).fe) (xU 4) (zF (yc 5 ((zW (zj (zw 1) (zj (zw 3) (zj (zw 4) zy))))).fe)
  (xE (oM (qR (tH ((oK (zl 5))).fr)) (yQ (zt wo (zl 5) ((zW (zj (zt zH (zl 2) (zl 3)) (zj (zw 4) zy)))).fr).fr)) (yq (oP _)) xD))))
  (rK (yv.z (R:=zM) (uc 6 (y4 lX (zV (zl 2) yi))))
  (rK (VN 2)
  (yv.z (R:=zM) (yq (zt wo ((zW (zj (zw 1) zy))).er (zl 6)))))))))))⟩
end
theorem Qp {l:PySem.W.OpenLaw}{w:World}{K:PySem.W.Frag}{h:Heap}{mg:Str->Option Value}{fa:Addr}(X:K.In h) (G:h.Ns mainGlobals mg) (hfa:mg "law"=some (.ref fa))
  (h0:Fx K "is_whole" jF) (h1:Fx K "is_whole_within" jE) (h2:Fx K "is_row_within" lg) (h3:Fx K "places_of" jy) (h4:Fx K "check_place" jI) (h5:Fx K "check_pair" jJ) (h6:Fx K "ways_from" mZ) (h7:Fx K "stall_at" jw) (h8:Fx K "at_or_above" jO) (h9:Fx K "least_pairs" j0) (h10:Fx K "holds" lh) (h11:Fx K "both" oj) (h12:Fx K "either" jH) (h13:Fx K "border_ahead_of_way" om) (h14:Fx K "pairs_ahead_of_changes" jz) (h15:Fx K "border_ahead_of_changes" jN) (h16:Fx K "border_of_either" jL) (h17:Fx K "border_of_all" jM) (h18:Fx K "next_border" oh) (h19:Fx K "next_round" lb) (h20:Fx K "rounds" m_) (h21:Fx K "borders" jK) (h22:Fx K "enough" jG) (h23:Fx K "_law_cell" jA) (h24:Fx K "_law_coins" j9) (h25:Fx K "_law_brims" jB) (h26:Fx K "_law_owners" j6) (h27:Fx K "_law_ways" j4) (h28:Fx K "_law_stalls" j5) (h29:Fx K "_law_floor" j8) (h30:Fx K "_law_held" j7) (h31:Fx K "_law_asked" jC) (h32:Fx K "law" jD)
  (nA:Cn K "KEEPER" (.str "keeper"))
  (y0:PySem.W.nsIn K mainGlobals "set"=some none) (y1:PySem.W.nsIn K mainGlobals "zip"=some none) (y2:PySem.W.nsIn K mainGlobals "enumerate"=some none)
  (z0:PySem.W.nsIn K mainGlobals "len"=some none) (z1:PySem.W.nsIn K mainGlobals "range"=some none) (z2:PySem.W.nsIn K mainGlobals "any"=some none) (z3:PySem.W.nsIn K mainGlobals "all"=some none) (z4:PySem.W.nsIn K mainGlobals "sorted"=some none) (z5:PySem.W.nsIn K mainGlobals "isinstance"=some none) (z6:PySem.W.nsIn K mainGlobals "bool"=some none) (z7:PySem.W.nsIn K mainGlobals "int"=some none) (z8:PySem.W.nsIn K mainGlobals "str"=some none) (z9:PySem.W.nsIn K mainGlobals "list"=some none) (z10:PySem.W.nsIn K mainGlobals "tuple"=some none) (z11:PySem.W.nsIn K mainGlobals "max"=some none) (z12:PySem.W.nsIn K mainGlobals "min"=some none):
  ∃ fd:FuncData,(∀ (s:Shared) (v:Value),BindsTo s fd ⟨[v],[]⟩ [("_law_script",v)])/\∀ base:Heap,K.In base->base.Ns mainGlobals mg->vU l.prog w K mg base wX 11 fa fd ["_law_script"] (uJ K (t6 pR)):=by
 have T:Bt mg:=⟨PySem.W.mg_none_of X G z0,PySem.W.mg_none_of X G z1,PySem.W.mg_none_of X G z2,PySem.W.mg_none_of X G z3,PySem.W.mg_none_of X G z4,PySem.W.mg_none_of X G z5,PySem.W.mg_none_of X G z6,PySem.W.mg_none_of X G z7,PySem.W.mg_none_of X G z8,PySem.W.mg_none_of X G z9,PySem.W.mg_none_of X G z10,PySem.W.mg_none_of X G z11,PySem.W.mg_none_of X G z12⟩
 have U:Bq mg:=⟨PySem.W.mg_none_of X G y0,PySem.W.mg_none_of X G y1,PySem.W.mg_none_of X G y2⟩
 obtain⟨jc,nA,jV⟩:=nA.mk X G;obtain⟨fd,Fl,hb⟩:=h32.law X G hfa λ _ _ _ _ _ _ _ _=>.of_eq rfl;refine⟨fd,hb,λ base _ _=>?_⟩;have fy:=Us l.prog w base T U (h0.mk X G);have qo:=VY l.prog w base T U (h3.mk X G);have pJ:=UA l.prog w base T U (h8.mk X G);have ux:=Uc l.prog w base T U (h9.mk X G);have g_:=VZ l.prog w base T U (h14.mk X G);have xr:=Ul l.prog w base T U (h23.mk X G);have kN:=Uk l.prog w base T U (h24.mk X G);have fq:=Ui l.prog w base T U (h30.mk X G);have pH:=Ur l.prog w base T U (h1.mk X G) fy;have f7:=Uv l.prog w base T U (h10.mk X G) pJ;have fC:=U4 l.prog w base T U (h11.mk X G) ux;have fA:=Ux l.prog w base T U (h12.mk X G) ux;have fF:=U8 l.prog w base T U (h13.mk X G) ux pJ;have fw:=Um l.prog w base T U (h25.mk X G) xr;have fm:=Uh l.prog w base T U (h26.mk X G) xr;have fj:=Ue l.prog w base T U (h27.mk X G) xr kN;have fk:=Ug l.prog w base T U (h28.mk X G) xr;have fx:=Uo l.prog w base T U (h31.mk X G) xr;have f6:=Ut l.prog w base T U (h2.mk X G) pH;have sa:=U0 l.prog w base T U (h4.mk X G) pH qo;have fD:=U6 l.prog w base T U (h16.mk X G) fA;have fE:=U7 l.prog w base T U (h17.mk X G) fC;have fu:=Uj l.prog w base T U (h29.mk X G) xr fm fw fj fk;have fB:=U1 l.prog w base T U (h5.mk X G) f6;have gY:=VU l.prog w base T U (h6.mk X G) sa;have gZ:=VV l.prog w base T U (h7.mk X G) sa;have fG:=U9 l.prog w base T U (h15.mk X G) gZ ux g_;have fh:=Ub l.prog w base T U (h18.mk X G) nA jV fE fF fG gY fD;have fg:=Ua l.prog w base T U (h19.mk X G) fh;have pG:=VW l.prog w base T U (h20.mk X G) fg qo;have qp:=U5 l.prog w base T U (h21.mk X G) pG;have f9:=Uw l.prog w base T U (h22.mk X G) sa fB f7 qp;exact Uq l.prog w base T U Fl fu qp fx f9 xr pG fq
theorem Yt {l:PySem.W.OpenLaw}{q:Program}{loose:List Str}{XP:(Str->Option Value)->Heap->Prop}{YP:World->Heap->Prop}{d:DefRec}{K:Params->PySem.W.Frag}(hn:l.most=some 63) (hdf:d.params.defaults=[])
  (hY:∀ (w:World) (h:Heap),YP w h->(K w.params).In h)
  (F:∀ (w:World) (mg:Str->Option Value) (fa:Addr) (h:Heap),(K w.params).In h->h.Ns mainGlobals mg->mg d.name=some (.ref fa)->
   ∃ fd:FuncData,(∀ (s:Shared) (u:Value),BindsTo s fd ⟨[u],[]⟩ [("_law_script",u)])/\∀ base:Heap,(K w.params).In base->base.Ns mainGlobals mg->vU l.prog w (K w.params) mg base wX 11 fa fd ["_law_script"] (uJ (K w.params) (t6 pR))):
  PySem.W.WalkO q loose XP YP l.row.toRowW d [] (λ f vs=>PySem.call f vs):=
 L2.Ys (n:=63) (k:=11) (x:="_law_script") (CX:=λ _=>wX) (sp:=λ w=>uJ (K w.params) (t6 pR)) hn (by decide) hdf ⟨rfl,by decide,by decide⟩ hY F (λ _ _ a ns hl hO hS=>Tw Tu hO hS hl) λ _ _ _ _ _ z=>z
end yB
open PySem PySem.W PyProof.Rows
set_option maxRecDepth 100000 in
set_option maxHeartbeats 0 in
theorem PySem.Challenge.cw_purseborder_k41_borders_told_holds : PySem.Challenge.rw_purseborder_k41_borders_told.Holds := by
 w_on;o_law;k_head;(case hw=>w_witness2)
 k_fill
 refine yB.Yt (l:=PySem.Challenge.rw_purseborder_k41_borders_told) rfl rfl (λ w h Y=>PySem.W.kIn_of Y) ?F
 case F=>
  intro w mg fa h KX G hmg;refine' yB.Qp KX G hmg ?_ ?_ ?_ ?_ ?_ ?_ ?_ ?_ ?_ ?_ ?_ ?_ ?_ ?_ ?_ ?_ ?_ ?_ ?_ ?_ ?_ ?_ ?_ ?_ ?_ ?_ ?_ ?_ ?_ ?_ ?_ ?_ ?_ ?_ ?_ ?_ ?_ ?_ ?_ ?_ ?_ ?_ ?_ ?_ ?_ ?_ ?_ ?_ ?_ ?_
  all_goals first | exact L5.Fx.i (by k_is) (by k_is) (by k_is) (by k_is) | k_is | exact L5.Cn.i (by k_is) (by exact⟨_,rfl⟩)
